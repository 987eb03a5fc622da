import PyProof.Rows.All
import Wide.All
import OpenK.AllK
import Wide.FinOn
import Lean
import PyProof.EqAt
import PyProof.EqKinds
import PyProof.TupleCall
import PyProof.ExcBaseAll.ValueError
import PyProof.ZipIter
import KE.KIsAll
import KE.KTryMore
import PyProof.ExcArgsOwn
import PyProof.ExcAttrAll.ValueError
import KE.KLam
import KE.KNestM
import PyProof.NsDelKeeps
import PyProof.Rows.CatchPack
import PyProof.ReprRoads
import PyProof.Rows.FStr
import PyProof.ListRange
import PyProof.CollectIter
import KE.KRevSl
import PyProof.ExcInit
import PyProof.ExcClass2
import PyProof.InstStore
import PyProof.InstStoreFacts
import PyProof.InstLoad
import OpenK.KMore
import PyProof.Rows.StrKeys3
import PySem.Challenge.RW_lineswitch_k31_what_is_left
set_option Elab.async false
set_option linter.all false
set_option maxRecDepth 100000
abbrev AB:=@PySem.Heap.get?_push_of_some
abbrev Bb:=@List.getElem?_eq_getElem
abbrev qa2:=@List.getElem?_eq_some_iff
abbrev AQ:=@List.prefix_refl
abbrev qa4:=@List.mem_cons
abbrev A0:=@Nat.lt_of_lt_of_le
abbrev A7:=@PySem.Heap.get?_push_size
abbrev AE:=@PySem.Heap.lt_size
abbrev A8:=@List.mem_cons_self
abbrev Bf:=@List.mem_cons_of_mem
abbrev A9:=@List.size_toArray
abbrev AF:=@Nat.le_refl
abbrev BV:=@List.getElem?_set_ne
abbrev BL:=@Bool.false_ne_true
abbrev Bg:=@Nat.ne_of_lt
abbrev Bu:=@List.map_cons
abbrev Cy:=@List.getElem?_set_self
abbrev qaH:=@List.mem_singleton
abbrev B2:=@Bool.false_eq_true
abbrev Ck:=@List.getElem?_map
abbrev Dk:=@List.mem_append_right
abbrev qaL:=@List.all_eq_true
abbrev Cz:=@List.not_mem_nil
abbrev B9:=@PySem.Heap.size_push
abbrev BP:=@Nat.ne_of_gt
abbrev CP:=@Bool.and_eq_true
abbrev CA:=@List.length_map
abbrev EL:=@List.getD_eq_getElem?_getD
abbrev Ca:=@Nat.le_trans
abbrev qaT:=@List.mem_map
abbrev Fo:=@List.getElem?_append_left
abbrev qaV:=@Option.map_eq_some_iff
abbrev qaW:=@List.mem_append
abbrev DD:=@List.range_succ
abbrev Fp:=@PySem.Heap.get?_update_self
abbrev Dw:=@Nat.lt_irrefl
abbrev DT:=@List.map_append
abbrev Fq:=@Nat.lt_succ_of_lt
abbrev FP:=@List.replicate_succ
abbrev FQ:=@List.length_append
abbrev Fs:=@Nat.le_add_right
abbrev DE:=@Nat.zero_le
abbrev Gn:=@List.mem_of_getElem?
abbrev qb7:=@List.mem_filter
abbrev Eg:=@List.map_map
abbrev IX:=@List.getElem?_append_right
abbrev FR:=@List.lookup_cons
abbrev FS:=@List.cons_append
abbrev HC:=@List.mem_append_left
abbrev qbD:=@Bool.eq_iff_iff
abbrev FT:=@Option.map_some
abbrev FU:=@List.sum_append
abbrev HE:=@Nat.pow_le_pow_right
abbrev Gp:=@List.flatten_cons
abbrev qbI:=@List.length_eq_zero_iff
abbrev HF:=@List.filterMap_cons
abbrev HG:=@List.getElem?_range
abbrev HH:=@List.map_congr_left
abbrev qbM:=@List.mem_range
abbrev Gq:=@List.getElem_mem
abbrev IY:=@PySem.Heap.get?_update_other
abbrev Ft:=@Nat.le_of_lt
abbrev Gr:=@List.append_nil
abbrev Gs:=@List.length_nil
abbrev HI:=@Int.toNat_natCast
abbrev qbT:=@Option.isSome_iff_exists
abbrev HJ:=@List.length_cons
abbrev qbV:=@List.nodup_cons
abbrev IZ:=@List.all_eq_false
abbrev Gu:=@List.map_nil
abbrev Kh:=@List.length_filter_le
abbrev I0:=@List.length_take
abbrev Ja:=@Nat.le_of_not_lt
abbrev Ki:=@List.mem_of_mem_take
abbrev Gv:=@Nat.le_succ
abbrev Kj:=@List.getElem_of_mem
abbrev MH:=@List.drop_eq_getElem_cons
abbrev MK:=@List.eq_of_mem_replicate
abbrev qc6:=@List.pairwise_cons
abbrev ML:=@List.getElem?_replicate
abbrev Kk:=@List.append_assoc
abbrev Kl:=@Nat.lt_succ_self
abbrev Km:=@List.take_length
abbrev Kn:=@Nat.succ_le_succ
abbrev Ko:=@List.ext_getElem
abbrev Kq:=@List.of_mem_zip
abbrev Kr:=@List.nil_append
abbrev MM:=@List.mem_of_mem_drop
abbrev Ks:=@Bool.false_and
namespace L2
open PySem PySem.Spec PyProof.Rows
abbrev Ud:=Sum Int Str
inductive V where
 |non |bl (b:Bool) |int (i:Int) |str (x:Str) |byt (b:Array UInt8) |flt (b:UInt64) |ref (a:Addr) |ty (n:String)
 deriving DecidableEq
def RelV:V→Value→Prop
 |.non,u=>u=Value.none
 |.bl b,u=>u=Value.bool b
 |.int i,u=>∃t,u=Value.int i t
 |.str x,u=>∃t,u=Value.str x t
 |.byt b,u=>∃t,u=Value.bytes b t
 |.flt b,u=>∃t,u=Value.float b t
 |.ref a,u=>u=Value.ref a
 |.ty n,u=>u=Value.type n
abbrev Vals:List V→List Value→Prop:=Paired RelV
theorem Vals.length {xs:List V} {us:List Value} (r:Vals xs us):xs.length=us.length:=Paired.length r
theorem Vals.get:∀{xs:List V} {us:List Value} {i:Nat} {x:V},Vals xs us→xs[i]?=some x→∃u,us[i]?=some u∧RelV x u
 |_,_,_,_,.nil,e=>by simp at e
 |_,_,0,_,.cons r _,e=>by simp at e;subst e;exact ⟨_,rfl,r⟩
 |_,_,i+1,x,.cons _ t,e=>by
  obtain ⟨u,h1,h2⟩:=Vals.get (i:=i) (x:=x) t (by simpa using e)
  exact ⟨u,by simpa using h1,h2⟩
theorem Vals.set {x:V} {u:Value} (r:RelV x u):∀{xs:List V} {us:List Value} (i:Nat),Vals xs us→Vals (xs.set i x) (us.set i u)
 |_,_,_,.nil=>.nil
 |_,_,0,.cons _ t=>.cons r t
 |_,_,i+1,.cons q t=>.cons q (Vals.set r i t)
theorem Vals.append:∀{xs ys:List V} {us ws:List Value},Vals xs us→Vals ys ws→Vals (xs++ys) (us++ws)
 |_,_,_,_,.nil,s=>s
 |_,_,_,_,.cons r t,s=>.cons r (Vals.append t s)
theorem Vals.take:∀{xs:List V} {us:List Value} (n:Nat),Vals xs us→Vals (xs.take n) (us.take n)
 |_,_,0,_=>.nil
 |_,_,_+1,.nil=>.nil
 |_,_,n+1,.cons r t=>.cons r (Vals.take n t)
theorem Vals.drop:∀{xs:List V} {us:List Value} (n:Nat),Vals xs us→Vals (xs.drop n) (us.drop n)
 |_,_,0,r=>r
 |_,_,_+1,.nil=>.nil
 |_,_,n+1,.cons _ t=>Vals.drop n t
def Ue:Option V→Option Value→Prop
 |some v,some u=>RelV v u
 |none,none=>True
 |_,_=>False
def kV:Ud→V
 |.inl i=>.int i
 |.inr x=>.str x
inductive HO where
 |lst (xs:List V)
 |tup (xs:List V)
 |own (x:Addr)
 |xd (fs:List (Str×V))
 |frz (o:Obj) (u:HO)
 |tbl (ps:Array Value)
 |ext (φ:Heap→Prop)
 |mex (φ:Heap→Prop)
abbrev Hp:=Addr→Option HO
def Ao (H:Hp) (a:Addr) (o:HO):Hp:=fun b=>if b=a then some o else H b
theorem B3 {H:Hp} {a:Addr} {o:HO}:Ao H a o a=some o:=by unfold Ao;rw [if_pos rfl]
theorem Au {H:Hp} {a b:Addr} {o:HO} (h:b≠a):Ao H a o b=H b:=by unfold Ao;rw [if_neg h]
theorem BE {H:Hp} {a b:Addr} {o:HO} (h:H a=some o) (h':H b=none):a≠b:=by
 intro e;subst e;rw [h] at h';cases h'
section
variable (P:Program) (w:World)
inductive Ph (h:Heap) (a:Addr) (xs:List V):Prop where
 |mk (f1:xs.length≤sizeLine) (its:List Value) (n:Nat) (f2:Vals xs its) (f3:h.get? a=some {cls:=.type "list",data:=.seq its.toArray n}):Ph h a xs
def NoDict (h:Heap) (a:Addr):Prop:=∀o,h.get? a=some o→o.dict=none
inductive Pi (h:Heap) (a:Addr) (xs:List V):Prop where
 |mk (f1:xs.length≤sizeLine) (its:List Value) (f2:Vals xs its) (f3:IsTup h a its.toArray) (f4:NoDict h a):Pi h a xs
theorem NoDict.new {h:Heap} {o:Obj} (hd:o.dict=none:=by rfl) (hf:o.isFreed=false:=by rfl):NoDict (h.push o) h.objs.size:=fun u e=>by
 rw [A7 _ hf] at e
 cases e
 exact hd
def ObjOk (P:Program) (w:World) (H:Hp) (h:Heap) (a:Addr):HO→Prop
 |.lst xs=>Ph h a xs
 |.tup xs=>Pi h a xs
 |.own _=>∃o,h.get? a=some o
 |.xd fs=>∃mA,h.Ns1 a mA∧∀f,Ue (fs.lookup f) (mA f)
 |.frz o u=>h.get? a=some o∧ObjOk P w H h a u
 |.tbl ps=>h.get? a=some {cls:=.none,data:=.fields ps}
 |.ext φ=>φ h∧(∃o,h.get? a=some o)∧∀h1 h2:Heap,φ h1→(∀o,h1.get? a=some o→h2.get? a=some o)→φ h2
 |.mex φ=>φ h∧(∃o,h.get? a=some o)∧∀h1 h2:Heap,φ h1→(∀o,h1.get? a=some o→h2.get? a=some o)→φ h2
def HOk (H:Hp) (h:Heap):Prop:=∀a o,H a=some o→ObjOk P w H h a o
end
section
variable {P:Program} {w:World} {H H':Hp} {h h':Heap} {a:Addr} {o:HO}
theorem ObjOk.lt (x:ObjOk P w H h a o):a<h.objs.size:=by
 cases o with
 |lst xs=>obtain ⟨_,_,_,_,e⟩:=x;exact AE e
 |tup xs=>obtain ⟨_,_,_,p,_⟩:=x;exact p.lt
 |own y=>obtain ⟨_,e⟩:=x;exact AE e
 |xd fs=>obtain ⟨_,⟨_,_,_,e,_⟩,_⟩:=x;exact AE e
 |frz ob u=>obtain ⟨e,_⟩:=x;exact AE e
 |tbl ps=>exact AE (show h.get? a=some _ from x)
 |ext φ=>obtain ⟨_,⟨_,e⟩,_⟩:=x;exact AE e
 |mex φ=>obtain ⟨_,⟨_,e⟩,_⟩:=x;exact AE e
theorem ObjOk.stay (x:ObjOk P w H h a o) (k:∀b u,(b=a∨H b=some (.own a))→h.get? b=some u→h'.get? b=some u)
 (ho:∀b,H b=some (.own a)→H' b=some (.own a)) (ht:∀b xs,H b=some (.tup xs)→H' b=some (.tup xs)):ObjOk P w H' h' a o:=by
 induction o with
 |lst xs=>obtain ⟨z,its,n,r,e⟩:=x;exact ⟨z,its,n,r,k _ _ (.inl rfl) e⟩
 |tup xs=>obtain ⟨z,its,r,⟨ob,e,c⟩,nd⟩:=x;exact ⟨z,its,r,⟨ob,k _ _ (.inl rfl) e,c⟩,fun o e2=>by rw [k _ _ (.inl rfl) e] at e2;cases e2;exact nd _ e⟩
 |own y=>obtain ⟨ob,e⟩:=x;exact ⟨ob,k _ _ (.inl rfl) e⟩
 |xd fs=>obtain ⟨mA,⟨od,es,ep,e,c⟩,r⟩:=x;exact ⟨mA,⟨od,es,ep,k _ _ (.inl rfl) e,c⟩,r⟩
 |frz ob u ih=>obtain ⟨e,q⟩:=x;exact ⟨k _ _ (.inl rfl) e,ih q⟩
 |tbl ps=>
  have e:h.get? a=some {cls:=.none,data:=.fields ps}:=x
  show h'.get? a=some {cls:=.none,data:=.fields ps}
  exact k a _ (.inl rfl) e
 |ext φ=>obtain ⟨p,⟨o,e⟩,st⟩:=x;exact ⟨st _ _ p fun o q=>k _ _ (.inl rfl) q,⟨o,k _ _ (.inl rfl) e⟩,st⟩
 |mex φ=>obtain ⟨p,⟨o,e⟩,st⟩:=x;exact ⟨st _ _ p fun o q=>k _ _ (.inl rfl) q,⟨o,k _ _ (.inl rfl) e⟩,st⟩
theorem HOk.lt (x:HOk P w H h) (e:H a=some o):a<h.objs.size:=(x a o e).lt
theorem HOk.fresh (x:HOk P w H h) (e:h.objs.size≤a):H a=none:=by
 cases q:H a with
 |none=>rfl
 |some u=>exact absurd (A0 (x.lt q) e) (Dw _)
theorem HOk.kept (x:HOk P w H h) (k:∀b u,h.get? b=some u→h'.get? b=some u):HOk P w H h':=fun a o e=>
 (x a o e).stay (fun b u _ q=>k b u q) (fun _ q=>q) fun _ _ q=>q
theorem HOk.laid (x:HOk P w H h) (k:∀b u,h.get? b=some u→h'.get? b=some u) (hp:h.objs.size≤a) (new:ObjOk P w (Ao H a o) h' a o):HOk P w (Ao H a o) h':=fun b u e=>by
 have hn:=x.fresh hp
 by_cases hb:b=a
 ·subst hb;rw [B3] at e;cases e;exact new
 ·rw [Au hb] at e
  exact (x b u e).stay (fun c v _ q=>k c v q) (fun c q=>by rw [Au (BE q hn)];exact q) fun c xs q=>by rw [Au (BE q hn)];exact q
end
def Rd (H:Hp) (a:Addr) (u:HO):Prop:=H a=some u∨∃o,H a=some (.frz o u)
theorem Rd.ok {P:Program} {w:World} {H:Hp} {h:Heap} {a:Addr} {u:HO} (r:Rd H a u) (x:HOk P w H h):ObjOk P w H h a u:=by
 rcases r with r |⟨o,r⟩
 ·exact x a u r
 ·obtain ⟨_,q⟩:=x a _ r
  exact q
def Kt:Option HO→Prop
 |some (.lst _)=>True
 |some (.ext _)=>True
 |some (.mex _)=>True
 |_=>False
section
variable {P:Program} {w:World} {H:Hp} {h h':Heap} {x e:Addr} {o':HO}
theorem HOk.write (ok:HOk P w H h) (mu:Kt (H x)) (he:e=x∨H e=some (.own x)) (k:∀b u,b≠e→h.get? b=some u→h'.get? b=some u) (heo:∃u,h'.get? e=some u)
 (new:ObjOk P w (Ao H x o') h' x o'):HOk P w (Ao H x o') h':=fun b u q=>by
 have nown:∀c y,H c=some (.own y)→c≠x:=fun c y r z=>by subst z;rw [r] at mu;exact mu
 have ntup:∀c xs,H c=some (.tup xs)→c≠x:=fun c xs r z=>by subst z;rw [r] at mu;exact mu
 by_cases hb:b=x
 ·subst hb;rw [B3] at q;cases q;exact new
 ·rw [Au hb] at q
  by_cases hbe:b=e
  ·have q':H b=some (.own x):=by
    rcases he with z |z
    ·exact absurd (hbe.trans z) hb
    ·rw [hbe];exact z
   rw [q] at q';cases q'
   obtain ⟨v,hv⟩:=heo
   exact ⟨v,by rw [hbe];exact hv⟩
  ·refine (ok b u q).stay (fun c v hc r=>k c v ?_ r) (fun c r=>by rw [Au (nown c b r)];exact r) fun c xs r=>by rw [Au (ntup c xs r)];exact r
   rcases hc with rfl |hc
   ·exact hbe
   ·rintro rfl
    rcases he with z |z
    ·exact nown c b hc z
    ·rw [hc] at z;cases z;exact hb rfl
end
structure Un (fs ex:List Addr) (H H':Hp) (h h':Heap):Prop where
 keep:∀b o,h.get? b=some o→H b=none→b∉fs→b∉ex→h'.get? b=some o
 slot:∀b o,h.get? b=some o→H b=none→b∈fs→b∉ex→∃sl,h'.get? b=some {o with slots:=sl}
 free:∀b o,h.get? b=some o→H b=none→b∉ex→H' b=none
 there:∀b o,h.get? b=some o→b∉ex→∃o',h'.get? b=some o'
 tups:∀b xs,H b=some (.tup xs)→H' b=some (.tup xs)
 frzs:∀b o u,H b=some (.frz o u)→H' b=some (.frz o u)
 tbls:∀b ps,H b=some (.tbl ps)→∃more,H' b=some (.tbl (ps++more))
section
variable {fs fs' ex ex':List Addr} {H H1 H2:Hp} {h h1 h2 h':Heap} {a x e:Addr} {o:HO}
theorem Un.any (u:Un fs ex H H1 h h1) {b:Addr} {ob:Obj} (q:h.get? b=some ob) (n:H b=none) (hx:b∉ex):∃sl,h1.get? b=some {ob with slots:=sl}:=by
 by_cases hb:b∈fs
 ·exact u.slot b ob q n hb hx
 ·exact ⟨ob.slots,u.keep b ob q n hb hx⟩
theorem Un.kept (k:∀b u,h.get? b=some u→h'.get? b=some u):Un fs ex H H h h':=
 ⟨fun b ob q _ _ _=>k b ob q,fun b ob q _ _ _=>⟨ob.slots,k b ob q⟩,fun _ _ _ n _=>n,fun b ob q _=>⟨ob,k b ob q⟩,fun _ _ q=>q,fun _ _ _ q=>q,fun _ ps q=>⟨#[],by rw [q];simp⟩⟩
theorem Un.refl:Un fs ex H H h h:=Un.kept fun _ _ q=>q
theorem Un.laid (k:∀b u,h.get? b=some u→h'.get? b=some u) (hp:h.objs.size≤a) (hn:H a=none):Un fs ex H (Ao H a o) h h' where
 keep:=fun b u q _ _ _=>k b u q
 slot:=fun b u q _ _ _=>⟨u.slots,k b u q⟩
 free:=fun b u q n _=>by rw [Au (Bg (A0 (AE q) hp))];exact n
 there:=fun b u q _=>⟨u,k b u q⟩
 tups:=fun b xs q=>by rw [Au (BE q hn)];exact q
 frzs:=fun b u xs q=>by rw [Au (BE q hn)];exact q
 tbls:=fun b ps q=>⟨#[],by rw [Au (BE q hn),q];simp⟩
theorem Un.write (mu:Kt (H x)) (he:e=x∨H e=some (.own x)) (k:∀b u,b≠e→h.get? b=some u→h'.get? b=some u) (heo:∃u,h'.get? e=some u):Un fs ex H (Ao H x o) h h':=by
 have hx:∀b,H b=none→b≠x:=fun b n z=>by subst z;rw [n] at mu;exact mu
 have hb:∀b,H b=none→b≠e:=fun b n z=>by
  subst z
  rcases he with r |r
  ·exact hx b n r
  ·rw [n] at r;cases r
 have hm:∀b u,H b=some u→¬Kt (some u)→b≠x:=fun b u q nm z=>by subst z;rw [q] at mu;exact nm mu
 refine ⟨fun b u q n _ _=>k b u (hb b n) q,fun b u q n _ _=>⟨u.slots,k b u (hb b n) q⟩,fun b u q n _=>by rw [Au (hx b n)];exact n,fun b u q _=>?_,
  fun b xs q=>by rw [Au (hm b _ q fun z=>z)];exact q,fun b u xs q=>by rw [Au (hm b _ q fun z=>z)];exact q,fun b ps q=>⟨#[],by rw [Au (hm b _ q fun z=>z),q];simp⟩⟩
 by_cases hbe:b=e
 ·subst hbe;exact heo
 ·exact ⟨u,k b u hbe q⟩
end
def Ku (h:Heap) (H:Hp):List Addr:=(List.range h.objs.size).filter fun a=>(H a).isSome
def EN (h:Heap) (H:Hp):Heap:=PySem.W.hideAll h (Ku h H)
theorem Ug (h:Heap) (H:Hp):(EN h H).objs.size=h.objs.size:=PySem.W.hideAll_size _ _
theorem Uh {h:Heap} {H:Hp} {b:Addr} {o:Obj} (e:h.get? b=some o) (n:H b=none):(EN h H).get? b=some o:=
 PySem.W.hideAll_get _ e fun hm=>by
  have q:(H b).isSome=true:=(qb7.mp hm).2
  rw [n] at q;simp at q
theorem Ui {h:Heap} {H:Hp} {b:Addr} {o:Obj} (e:(EN h H).get? b=some o):h.get? b=some o∧H b=none:=by
 have e':h.get? b=some o:=PySem.W.of_hideAll (Ku h H) e
 refine ⟨e',?_⟩
 cases q:H b with
 |none=>rfl
 |some x=>
  have hm:b∈Ku h H:=qb7.mpr ⟨qbM.mpr (AE e'),by simp [q]⟩
  have z:(EN h H).get? b=none:=PySem.W.hideAll_none (Ku h H) hm
  rw [z] at e;cases e
def Uj (g h:Heap) (L:Addr):List (Addr×Obj):=(List.range h.objs.size).filterMap fun a=>if a=L∨(g.get? a).isSome=true then none else (h.get? a).map fun o=>(a,o)
def rest (g h:Heap) (L d:Addr):List (Addr×Obj):=(Uj g h L).filter fun p=>decide (p.1≠d)
structure Mod (K:PySem.W.Frag) (mg:Str→Option Value) (base:Heap):Prop where
 kin:K.In base
 glob:base.Ns mainGlobals mg
 blt:∃mb,base.Ns builtinsNs mb∧∀x:Str,x≠"__name__"→mb x=bootBuiltins x
 nolimit:base.NoLimit
structure Cx where
 prog:Program
 w:World
 K:PySem.W.Frag
 mg:Str→Option Value
 base:Heap
 A:Around
 N:List Str
 s₀:Shared
 H₀:Hp
 env:Env
 outer:List Env
 stack:List Env
 ex:List Addr
 fn:Str→Bool
 calm:Bool
 pn:List (Addr×Obj)
 xe:Value→Shared→Prop
def frs (l:List Env):List Addr:=l.filterMap (·.frame)
abbrev Cx.fs (X:Cx):List Addr:=frs X.outer
def Kv (sc:Scope) (x:Str):Prop:=sc.names.lookup x=some .local∨sc.names.lookup x=some .cell∨sc.names.lookup x=some .free
def HK (sc:Scope) (x:Str):Prop:=sc.names.lookup x=some .local∨sc.names.lookup x=some .cell
def Pj (env:Env) (h:Heap) (m:Str→Option Value) (x:Str) (u:Value):Prop:=
 (env.kindOf x=some .local∧m x=some u)∨((env.kindOf x=some .cell∨env.kindOf x=some .free)∧∃c,env.cells.lookup x=some c∧h.IsCell c (some u))
structure Cx.Ok (X:Cx):Prop where
 mod:Mod X.K X.mg X.base
 kind:X.env.scope.kind=.function
 glob:X.env.globals=mainGlobals
 blt:X.env.builtins=builtinsNs
 above:X.s₀.heap.objs.size≤X.env.locals
 inj:∀x y c,X.env.cells.lookup x=some c→X.env.cells.lookup y=some c→x=y
 has:∀x,(X.env.kindOf x=some .cell∨X.env.kindOf x=some .free)→∃c,X.env.cells.lookup x=some c
 cab:∀x c,X.fn x=true→X.env.cells.lookup x=some c→X.s₀.heap.objs.size≤c
 hd:X.calm=true→X.A.handled=none
 frames:X.A.frames=some X.stack
 stk:X.stack=X.outer∨(X.stack=X.env::X.outer∧X.env.frame=some X.env.locals)
 exf:∀b∈X.ex,b≠X.env.locals∧∀x c,X.env.cells.lookup x=some c→c≠b
 bs:∀b o,X.base.get? b=some o→X.s₀.heap.get? b=some o∧X.H₀ b=none
 bsz:X.base.objs.size≤X.s₀.heap.objs.size
 noex:∀b o,X.base.get? b=some o→b∉X.ex
 exfs:∀b∈X.ex,b∉X.fs
 funs:X.s₀.heap.FunFrames X.base X.outer
 frf:∀b∈X.fs,X.H₀ b=none
structure Inv (X:Cx) (pins:List (Addr×Obj)) (σ:List (Option V)) (H:Hp) (s:Shared):Prop where
 ok:X.Ok
 os:s.os=X.s₀.os
 bare:AllBare s.gens
 base:Un X.fs X.ex X.H₀ H X.s₀.heap s.heap
 loc:∃m,s.heap.Ns X.env.locals m∧∀(i:Nat) (x:Str) (v:V),X.N[i]?=some x→σ[i]?=some (some v)→Kv X.env.scope x→∃u,RelV v u∧Pj X.env s.heap m x u
 cell:∀x c,X.env.cells.lookup x=some c→∃v,s.heap.IsCell c v
 free:H X.env.locals=none
 freeC:∀x c,X.env.cells.lookup x=some c→H c=none
 pin:∀p∈X.pn++pins,s.heap.get? p.1=some p.2∧H p.1=none∧p.1≠X.env.locals∧p.1∉X.fs∧∀v,p.2.data≠.cell v
 hok:HOk X.prog X.w H s.heap
 len:σ.length=X.N.length
section
variable {X:Cx} {pins:List (Addr×Obj)} {σ:List (Option V)} {H H':Hp} {s:Shared} {h':Heap}
theorem Cx.Ok.nofr (ok:X.Ok) {b:Addr} {o:Obj} (e:X.base.get? b=some o):b∉X.fs:=fun hb=>by
 have:=(ok.funs.mem hb).1
 rw [e] at this;cases this
theorem Inv.bs (I:Inv X pins σ H s):∀b o,X.base.get? b=some o→s.heap.get? b=some o∧H b=none:=fun b o e=>
 ⟨I.base.keep b o (I.ok.bs b o e).1 (I.ok.bs b o e).2 (I.ok.nofr e) (I.ok.noex b o e),I.base.free b o (I.ok.bs b o e).1 (I.ok.bs b o e).2 (I.ok.noex b o e)⟩
theorem Inv.bk (I:Inv X pins σ H s):∀b o,X.base.get? b=some o→s.heap.get? b=some o:=fun b o e=>(I.bs b o e).1
theorem Inv.mod (I:Inv X pins σ H s):Mod X.K X.mg X.base:=I.ok.mod
theorem Inv.kIn (I:Inv X pins σ H s):X.K.In s.heap:=I.ok.mod.kin.keeps I.bk
theorem Inv.nolimit (I:Inv X pins σ H s):s.heap.NoLimit:=I.ok.mod.nolimit.keeps I.bk
theorem Inv.lt (I:Inv X pins σ H s):X.env.locals<s.heap.objs.size:=let ⟨_,hn,_⟩:=I.loc;hn.lt
theorem Inv.sz (I:Inv X pins σ H s):X.s₀.heap.objs.size≤s.heap.objs.size:=Ca I.ok.above (Ft I.lt)
theorem Inv.nofs (I:Inv X pins σ H s) {a:Addr} (h:s.heap.objs.size≤a):a∉X.fs:=fun hb=>by
 obtain ⟨_,o,ho,_⟩:=I.ok.funs.mem hb
 exact absurd (A0 (AE ho) (Ca I.sz h)) (Dw _)
theorem Inv.cne (I:Inv X pins σ H s):∀x c,X.env.cells.lookup x=some c→c≠X.env.locals:=fun x c e z=>by
 obtain ⟨v,o,ho,hd⟩:=I.cell x c e
 obtain ⟨m,⟨o',es,ep,ho',hd',_⟩,_⟩:=I.loc
 rw [z,ho'] at ho;cases ho;rw [hd'] at hd;cases hd
theorem Inv.funs (I:Inv X pins σ H s):s.heap.FunFrames X.base X.outer:=by
 have all:∀(l:List Env),(∀b∈frs l,b∈X.fs)→X.s₀.heap.FunFrames X.base l→s.heap.FunFrames X.base l:=by
  intro l
  induction l with
  |nil=>intro _ _;trivial
  |cons env r ih=>
   intro hs hl
   obtain ⟨hk,⟨L,o,hf,hn,ho,hd⟩,hr⟩:=hl
   have hL:L∈X.fs:=hs L (by unfold frs;rw [HF,hf];exact A8)
   obtain ⟨sl,e⟩:=I.base.slot L o ho (I.ok.frf L hL) hL fun z=>I.ok.exfs L z hL
   exact ⟨hk,⟨L,_,hf,hn,e,hd⟩,ih (fun b hb=>hs b (by unfold frs;rw [HF,hf];exact Bf _ hb)) hr⟩
 exact all X.outer (fun _ hb=>hb) I.ok.funs
theorem Inv.stack (I:Inv X pins σ H s):s.heap.FunFrames X.base X.stack:=by
 rcases I.ok.stk with e |⟨e,hf⟩
 ·rw [e];exact I.funs
 ·rw [e]
  obtain ⟨m,hn,_⟩:=I.loc
  refine .cons (by rw [I.ok.kind];decide) hf hn ?_ I.funs
  exact Heap.get?_none_of_le (Ca I.ok.bsz I.ok.above)
theorem Inv.stkSub (I:Inv X pins σ H s):∀b∈frs X.stack,b∈X.env.locals::X.fs:=fun b hb=>by
 rcases I.ok.stk with e |⟨e,hf⟩
 ·rw [e] at hb;exact Bf _ hb
 ·rw [e] at hb
  unfold frs at hb
  rw [HF,hf] at hb
  exact hb
theorem Inv.stkFree (I:Inv X pins σ H s):∀b∈frs X.stack,H b=none:=fun b hb=>by
 rcases qa4.mp (I.stkSub b hb) with e |hb
 ·rw [e];exact I.free
 ·obtain ⟨_,o,ho,_⟩:=I.ok.funs.mem hb
  exact I.base.free b o ho (I.ok.frf b hb) fun z=>I.ok.exfs b z hb
theorem Inv.step {g':Array GenState} {t':Nat} {d':Drawn} {ch:List Addr} (I:Inv X pins σ H s)
 (hch:∀b∈ch,(b∈X.ex∨X.s₀.heap.objs.size≤b)∧b≠X.env.locals∧(∀x c,X.env.cells.lookup x=some c→c≠b)∧∀p∈X.pn++pins,p.1≠b)
 (keep:∀b o,b≠X.env.locals→b∉X.fs→b∉ch→s.heap.get? b=some o→H b=none→h'.get? b=some o)
 (slot:∀b o,b≠X.env.locals→b∈X.fs→b∉ch→s.heap.get? b=some o→H b=none→∃sl,h'.get? b=some {o with slots:=sl}) (free:∀b o,b∉ch→s.heap.get? b=some o→H b=none→H' b=none)
 (there:∀b o,b∉ch→s.heap.get? b=some o→∃o',h'.get? b=some o')
 (tups:∀b xs,H b=some (.tup xs)→H' b=some (.tup xs)) (frzs:∀b o u,H b=some (.frz o u)→H' b=some (.frz o u)) (tbls:∀b ps,H b=some (.tbl ps)→∃more,H' b=some (.tbl (ps++more)))
 (ns:∀m,s.heap.Ns X.env.locals m→h'.Ns X.env.locals m) (hok:HOk X.prog X.w H' h') (hg:AllBare g'):
 Inv X pins σ H' {s with heap:=h',gens:=g',drawn:=d',toks:=t'}:=by
 have neL:∀b o,X.s₀.heap.get? b=some o→b≠X.env.locals:=fun b o e=>Bg (A0 (AE e) I.ok.above)
 have neC:∀b o,X.s₀.heap.get? b=some o→b∉X.ex→b∉ch:=fun b o e hx hb=>by
  rcases (hch b hb).1 with z |z
  ·exact hx z
  ·exact absurd (A0 (AE e) z) (Dw _)
 have cellK:∀x c,X.env.cells.lookup x=some c→∀v,s.heap.IsCell c v→h'.IsCell c v:=fun x c e v z1_=>by
  obtain ⟨o,ho,hd⟩:=z1_
  have nch:c∉ch:=fun z=>(hch c z).2.2.1 x c e rfl
  by_cases hc:c∈X.fs
  ·obtain ⟨sl,q⟩:=slot c o (I.cne x c e) hc nch ho (I.freeC x c e)
   exact ⟨_,q,hd⟩
  ·exact ⟨o,keep c o (I.cne x c e) hc nch ho (I.freeC x c e),hd⟩
 refine ⟨I.ok,I.os,hg,⟨fun b o e n hb hx=>?_,fun b o e n hb hx=>?_,fun b o e n hx=>?_,fun b o e hx=>?_,fun b xs e=>tups b xs (I.base.tups b xs e),fun b o xs e=>frzs b o xs (I.base.frzs b o xs e),fun b ps e=>?_⟩,?_,fun x c e=>?_,?_,fun x c e=>?_,fun p hp=>?_,hok,I.len⟩
 ·exact keep b o (neL b o e) hb (neC b o e hx) (I.base.keep b o e n hb hx) (I.base.free b o e n hx)
 ·obtain ⟨sl,e1⟩:=I.base.slot b o e n hb hx
  obtain ⟨sl',e2⟩:=slot b _ (neL b o e) hb (neC b o e hx) e1 (I.base.free b o e n hx)
  exact ⟨sl',e2⟩
 ·obtain ⟨o',e1⟩:=I.base.there b o e hx
  exact free b o' (neC b o e hx) e1 (I.base.free b o e n hx)
 ·obtain ⟨o',e1⟩:=I.base.there b o e hx
  exact there b o' (neC b o e hx) e1
 ·obtain ⟨m1,e1⟩:=I.base.tbls b ps e
  obtain ⟨m2,e2⟩:=tbls b _ e1
  exact ⟨m1++m2,by rw [e2,Array.append_assoc]⟩
 ·obtain ⟨m,hn,hl⟩:=I.loc
  refine ⟨m,ns m hn,fun i x v e1 e2 e3=>?_⟩
  obtain ⟨u,r,l⟩:=hl i x v e1 e2 e3
  refine ⟨u,r,?_⟩
  rcases l with l |⟨k,c,e,z⟩
  ·exact .inl l
  ·exact .inr ⟨k,c,e,cellK x c e _ z⟩
 ·obtain ⟨v,z⟩:=I.cell x c e
  exact ⟨v,cellK x c e v z⟩
 ·obtain ⟨m,⟨o,_,_,ho,_⟩,_⟩:=I.loc
  exact free _ o (fun z=>(hch _ z).2.1 rfl) ho I.free
 ·obtain ⟨v,o,ho,hd⟩:=I.cell x c e
  exact free c o (fun z=>(hch c z).2.2.1 x c e rfl) ho (I.freeC x c e)
 ·obtain ⟨e,n,ne,nf,d⟩:=I.pin p hp
  have nch:p.1∉ch:=fun z=>(hch p.1 z).2.2.2 p hp rfl
  exact ⟨keep p.1 p.2 ne nf nch e n,free p.1 p.2 nch e n,ne,nf,d⟩
theorem Inv.un {t':Nat} (I:Inv X pins σ H s) (u:Un X.fs [] H H' s.heap h') (hok:HOk X.prog X.w H' h'):Inv X pins σ H' {s with heap:=h',toks:=t'}:=by
 obtain ⟨m,⟨o,es,ep,ho,r⟩,_⟩:=id I.loc
 obtain ⟨sl,hL⟩:=u.any ho I.free (by simp)
 exact I.step (g':=s.gens) (d':=s.drawn) (ch:=[]) (fun _ z=>nomatch z) (fun b o _ hb _ e n=>u.keep b o e n hb (by simp)) (fun b o _ hb _ e n=>u.slot b o e n hb (by simp)) (fun b o _ e n=>u.free b o e n (by simp)) (fun b o _ e=>u.there b o e (by simp)) u.tups u.frzs u.tbls (fun m' hm=>by
  obtain ⟨o',es',ep',ho',r'⟩:=hm
  rw [ho] at ho';cases ho'
  exact ⟨_,es',ep',hL,r'⟩) hok I.bare
theorem Inv.call {g':Array GenState} {t':Nat} {d':Drawn} {ch:List Addr} (I:Inv X pins σ H s) (u:Un (frs X.stack) ch H H' s.heap h') (hok:HOk X.prog X.w H' h') (hg:AllBare g')
 (hch:∀b∈ch,(b∈X.ex∨X.s₀.heap.objs.size≤b)∧b≠X.env.locals∧(∀x c,X.env.cells.lookup x=some c→c≠b)∧∀p∈X.pn++pins,p.1≠b):
 Inv X pins σ H' {s with heap:=h',gens:=g',drawn:=d',toks:=t'}:=by
 obtain ⟨m,⟨o,es,ep,ho,r⟩,_⟩:=id I.loc
 obtain ⟨sl,hL⟩:=u.any ho I.free fun z=>(hch _ z).2.1 rfl
 exact I.step (ch:=ch) hch (fun b o hL hb hc e n=>u.keep b o e n (fun z=>(qa4.mp (I.stkSub b z)).elim hL hb) hc) (fun b o _ _ hc e n=>u.any e n hc) (fun b o hc e n=>u.free b o e n hc) (fun b o hc e=>u.there b o e hc) u.tups u.frzs u.tbls (fun m' hm=>by
  obtain ⟨o',es',ep',ho',r'⟩:=hm
  rw [ho] at ho';cases ho'
  exact ⟨_,es',ep',hL,r'⟩) hok hg
theorem Inv.turned {t':Nat} {it:Addr} (I:Inv X pins σ H s) (k:∀b o,b≠it→s.heap.get? b=some o→h'.get? b=some o) (hn:H it=none) (hL:it≠X.env.locals)
 (h1:it∈X.ex∨X.s₀.heap.objs.size≤it) (h2:∀x c,X.env.cells.lookup x=some c→c≠it) (h3:∀p∈X.pn++pins,p.1≠it):Inv X pins σ H {s with heap:=h',toks:=t'}:=by
 have nit:∀b u,H b=some u→b≠it:=fun b u e z=>by rw [z,hn] at e;cases e
 refine I.step (g':=s.gens) (d':=s.drawn) (ch:=[it]) (fun b hb=>?_) (fun b o _ _ hc e _=>k b o (fun z=>hc (by simp [z])) e) (fun b o _ _ hc e _=>⟨o.slots,k b o (fun z=>hc (by simp [z])) e⟩) (fun _ _ _ _ n=>n)
  (fun b o hc e=>⟨o,k b o (fun z=>hc (by simp [z])) e⟩) (fun _ _ e=>e) (fun _ _ _ e=>e) (fun b ps e=>⟨#[],by rw [e];simp⟩) (fun m hm=>?_) (fun b u e=>?_) I.bare
 ·have e:b=it:=by simpa using hb
  subst e
  exact ⟨h1,hL,h2,h3⟩
 ·obtain ⟨o,es,ep,ho,r⟩:=hm
  exact ⟨o,es,ep,k _ o (Ne.symm hL) ho,r⟩
 ·refine (I.hok b u e).stay (fun c v hc q=>k c v ?_ q) (fun _ q=>q) fun _ _ q=>q
  rcases hc with z |z
  ·rw [z];exact nit b u e
  ·exact nit c _ z
theorem Inv.tok (I:Inv X pins σ H s) (t:Nat):Inv X pins σ H {s with toks:=t}:=I.un (h':=s.heap) (t':=t) Un.refl I.hok
theorem Inv.kept {t':Nat} (I:Inv X pins σ H s) (k:∀b u,s.heap.get? b=some u→h'.get? b=some u):Inv X pins σ H {s with heap:=h',toks:=t'}:=I.un (Un.kept k) (I.hok.kept k)
theorem Inv.laid {a:Addr} {o:HO} {t':Nat} (I:Inv X pins σ H s) (k:∀b u,s.heap.get? b=some u→h'.get? b=some u) (hp:s.heap.objs.size≤a) (new:ObjOk X.prog X.w (Ao H a o) h' a o):
 Inv X pins σ (Ao H a o) {s with heap:=h',toks:=t'}:=I.un (Un.laid k hp (I.hok.fresh hp)) (I.hok.laid k hp new)
theorem Inv.write {x e:Addr} {o:HO} {t':Nat} (I:Inv X pins σ H s) (mu:Kt (H x)) (he:e=x∨H e=some (.own x)) (k:∀b u,b≠e→s.heap.get? b=some u→h'.get? b=some u) (heo:∃u,h'.get? e=some u)
 (new:ObjOk X.prog X.w (Ao H x o) h' x o):Inv X pins σ (Ao H x o) {s with heap:=h',toks:=t'}:=I.un (Un.write mu he k heo) (I.hok.write mu he k heo new)
theorem Inv.weak {σ':List (Option V)} (I:Inv X pins σ H s) (hl:σ'.length=σ.length) (w:∀(i:Nat) v,σ'[i]?=some (some v)→σ[i]?=some (some v)):Inv X pins σ' H s:=
 ⟨I.ok,I.os,I.bare,I.base,let ⟨m,hn,hl'⟩:=I.loc;⟨m,hn,fun i x v e1 e2 e3=>hl' i x v e1 (w i v e2) e3⟩,I.cell,I.free,I.freeC,I.pin,I.hok,hl.trans I.len⟩
theorem Inv.pins_of {pins':List (Addr×Obj)} (I:Inv X pins σ H s) (h:∀p∈pins',s.heap.get? p.1=some p.2∧H p.1=none∧p.1≠X.env.locals∧p.1∉X.fs∧∀v,p.2.data≠.cell v):Inv X pins' σ H s:=
 ⟨I.ok,I.os,I.bare,I.base,I.loc,I.cell,I.free,I.freeC,fun p hp=>(qaW.mp hp).elim (fun z=>I.pin p (HC _ z)) (h p),I.hok,I.len⟩
theorem MN {N:List Str} (hN:N.Nodup) {i j:Nat} {x:Str} (a:N[i]?=some x) (b:N[j]?=some x):i=j:=by
 obtain ⟨h1,e1⟩:=qa2.mp a
 obtain ⟨h2,e2⟩:=qa2.mp b
 exact (List.getElem_inj hN).mp (e1.trans e2.symm)
theorem Kw {M:Model} {A:Around} {E:Value→Shared→Prop} {i:Nat} {x:Str} {v:V} {u:Value} {Q:Unit→Shared→Prop} (I:Inv X pins σ H s) (hN:X.N.Nodup) (hi:X.N[i]?=some x) (hx:HK X.env.scope x) (r:RelV v u)
 (h:∀s',Inv X pins (σ.set i (some v)) H s'→(∃a,Heap.SameBut a s.heap s'.heap∧(a=X.env.locals∨X.env.cells.lookup x=some a))→Q () s') (hf:X.fn x=true∨X.env.scope.names.lookup x=some .local:=by first |exact .inl rfl |exact .inr rfl |assumption):wpAny M A (storeName X.env x u) Q E s:=by
 obtain ⟨m,hn,hl⟩:=id I.loc
 have hcls:(X.env.scope.kind==.class||(X.env.scope.kind==.module&&X.env.locals != X.env.globals))=false:=by rw [I.ok.kind];rfl
 have hiσ:i < σ.length:=by rw [I.len];exact (qa2.mp hi).1
 have cne:=I.cne
 have tracked:∀{a:Addr} {h':Heap},(∃o,s.heap.get? a=some o∧H a=none)→Heap.SameBut a s.heap h'→HOk X.prog X.w H h':=fun {a h'} ha hs b ob e=>by
  obtain ⟨_,_,hfree⟩:=ha
  refine (I.hok b ob e).stay (fun c w' hc q=>(hs.2 c ?_).trans q) (fun _ q=>q) fun _ _ q=>q
  rintro rfl
  rcases hc with rfl |hc
  ·rw [hfree] at e;cases e
  ·rw [hfree] at hc;cases hc
 rcases hx with hk |hk
 ·refine wpAny_storeName_local hk hn (fun h' hn' hs=>?_) hcls
  obtain ⟨oL,_,_,hoL,_⟩:=id hn
  refine h _ ⟨I.ok,I.os,I.bare,⟨fun b o e n hb hx=>?_,fun b o e n hb hx=>?_,I.base.free,fun b o e hx=>?_,I.base.tups,I.base.frzs,I.base.tbls⟩,⟨_,hn',fun j y v' e1 e2 e3=>?_⟩,fun y c e=>?_,I.free,I.freeC,fun p hp=>?_,tracked ⟨oL,hoL,I.free⟩ hs,by simpa using I.len⟩ ⟨_,hs,.inl rfl⟩
  ·exact (hs.2 b (Bg (A0 (AE e) I.ok.above))).trans (I.base.keep b o e n hb hx)
  ·obtain ⟨sl,e1⟩:=I.base.slot b o e n hb hx
   exact ⟨sl,(hs.2 b (Bg (A0 (AE e) I.ok.above))).trans e1⟩
  ·obtain ⟨o',e1⟩:=I.base.there b o e hx
   exact ⟨o',(hs.2 b (Bg (A0 (AE e) I.ok.above))).trans e1⟩
  ·by_cases hj:j=i
   ·subst hj
    rw [hi] at e1;cases e1
    rw [Cy hiσ] at e2
    cases e2
    exact ⟨u,r,.inl ⟨hk,by simp⟩⟩
   ·rw [BV (Ne.symm hj)] at e2
    obtain ⟨u',r',q⟩:=hl j y v' e1 e2 e3
    refine ⟨u',r',?_⟩
    rcases q with ⟨k,e⟩ |⟨k,c,e,z⟩
    ·refine .inl ⟨k,?_⟩
     have:y≠x:=fun e=>hj (MN hN e1 (e ▸ hi))
     simp [this,e]
    ·exact .inr ⟨k,c,e,z.sameBut hs (cne y c e)⟩
  ·obtain ⟨w',z⟩:=I.cell y c e
   exact ⟨w',z.sameBut hs (cne y c e)⟩
  ·obtain ⟨e,n,ne,nf,d⟩:=I.pin p hp
   exact ⟨(hs.2 p.1 ne).trans e,n,ne,nf,d⟩
 ·have hfn:X.fn x=true:=by
   rcases hf with z |z
   ·exact z
   ·rw [z] at hk;cases hk
  obtain ⟨c,hc⟩:=I.ok.has x (.inl hk)
  obtain ⟨w',z⟩:=I.cell x c hc
  refine wpAny_storeName_cell I.ok.kind hk hc z (fun h' hc' hs=>?_)
  obtain ⟨oc,hoc,hocd⟩:=id z
  refine h {s with heap:=h'} ⟨I.ok,I.os,I.bare,⟨fun b o e n hb hx=>?_,fun b o e n hb hx=>?_,I.base.free,fun b o e hx=>?_,I.base.tups,I.base.frzs,I.base.tbls⟩,⟨m,hn.sameBut hs (Ne.symm (cne x c hc)),fun j y v' e1 e2 e3=>?_⟩,fun y c' e=>?_,I.free,I.freeC,fun p hp=>?_,tracked ⟨oc,hoc,I.freeC x c hc⟩ hs,by simpa using I.len⟩ ⟨c,hs,.inr hc⟩
  ·exact (hs.2 b (Bg (A0 (AE e) (I.ok.cab x c hfn hc)))).trans (I.base.keep b o e n hb hx)
  ·obtain ⟨sl,e1⟩:=I.base.slot b o e n hb hx
   exact ⟨sl,(hs.2 b (Bg (A0 (AE e) (I.ok.cab x c hfn hc)))).trans e1⟩
  ·obtain ⟨o',e1⟩:=I.base.there b o e hx
   exact ⟨o',(hs.2 b (Bg (A0 (AE e) (I.ok.cab x c hfn hc)))).trans e1⟩
  ·by_cases hj:j=i
   ·subst hj
    rw [hi] at e1;cases e1
    rw [Cy hiσ] at e2
    cases e2
    exact ⟨u,r,.inr ⟨.inl hk,c,hc,hc'⟩⟩
   ·rw [BV (Ne.symm hj)] at e2
    obtain ⟨u',r',q⟩:=hl j y v' e1 e2 e3
    refine ⟨u',r',?_⟩
    rcases q with q |⟨k,c',e,z'⟩
    ·exact .inl q
    ·refine .inr ⟨k,c',e,z'.sameBut hs ?_⟩
     rintro rfl
     exact hj (MN hN e1 (I.ok.inj _ _ _ e hc ▸ hi))
  ·by_cases hcc:c'=c
   ·subst hcc;exact ⟨_,hc'⟩
   ·obtain ⟨w2,z2⟩:=I.cell y c' e
    exact ⟨w2,z2.sameBut hs hcc⟩
  ·obtain ⟨e,n,ne,nf,d⟩:=I.pin p hp
   refine ⟨(hs.2 p.1 ?_).trans e,n,ne,nf,d⟩
   intro q
   rw [q,hoc] at e
   have q':oc=p.2:=Option.some.inj e
   exact d w' (by rw [←q'];exact hocd)
theorem Kx {M:Model} {A:Around} {E:Value→Shared→Prop} {i:Nat} {x:Str} {v:V} {u:Value} {Q:Unit→Shared→Prop} (I:Inv X pins σ H s) (hN:X.N.Nodup) (hi:X.N[i]?=some x) (hx:HK X.env.scope x) (r:RelV v u)
 (h:∀s',Inv X pins (σ.set i (some v)) H s'→Q () s') (hf:X.fn x=true∨X.env.scope.names.lookup x=some .local:=by first |exact .inl rfl |exact .inr rfl |assumption):wpAny M A (storeName X.env x u) Q E s:=
 Kw I hN hi hx r (fun s' I' _=>h s' I') hf
theorem Inv.call' {s':Shared} {ch:List Addr} (I:Inv X pins σ H s) (ho:s'.os=s.os) (u:Un (frs X.stack) ch H H' s.heap s'.heap) (hok:HOk X.prog X.w H' s'.heap) (hg:AllBare s'.gens)
 (hch:∀b∈ch,(b∈X.ex∨X.s₀.heap.objs.size≤b)∧b≠X.env.locals∧(∀x c,X.env.cells.lookup x=some c→c≠b)∧∀p∈X.pn++pins,p.1≠b):Inv X pins σ H' s':=by
 obtain ⟨h',g',d',t',o'⟩:=s'
 have e:o'=s.os:=ho
 subst e
 exact I.call (g':=g') (t':=t') (d':=d') u hok hg hch
end
abbrev XK:=Value→Option Addr→Hp→Prop
abbrev St:=List (Option V)
abbrev VK:=V→Hp→Prop
abbrev TE:=St→Hp→VK→Prop
abbrev TT:=St→Hp→(Bool→Hp→Prop)→Prop
abbrev TA:=St→Hp→(List V→Hp→Prop)→Prop
structure DU where
 nx:St→Hp→Prop
 rt:VK
 bk:St→Hp→Prop:=fun _ _=>False
 ct:St→Hp→Prop:=fun _ _=>False
abbrev TS:=DU→St→Hp→Prop
inductive EP (X:Cx) (pins:List (Addr×Obj)) (σ:St) (Q:VK) (u:Value) (s':Shared):Prop where
 |mk (v:V) (H':Hp) (i:Inv X pins σ H' s') (r:RelV v u) (q:Q v H'):EP X pins σ Q u s'
inductive TP (X:Cx) (pins:List (Addr×Obj)) (σ:St) (Q:Bool→Hp→Prop) (b:Bool) (s':Shared):Prop where
 |mk (H':Hp) (i:Inv X pins σ H' s') (q:Q b H'):TP X pins σ Q b s'
inductive AP (X:Cx) (pins:List (Addr×Obj)) (σ:St) (Q:List V→Hp→Prop) (us:List Value) (s':Shared):Prop where
 |mk (vs:List V) (H':Hp) (i:Inv X pins σ H' s') (r:Vals vs us) (q:Q vs H'):AP X pins σ Q us s'
inductive SN (X:Cx) (pins:List (Addr×Obj)) (q:St→Hp→Prop) (s':Shared):Prop where
 |mk (σ':St) (H':Hp) (i:Inv X pins σ' H' s') (p:q σ' H'):SN X pins q s'
inductive SR (X:Cx) (pins:List (Addr×Obj)) (q:V→Hp→Prop) (u:Value) (s':Shared):Prop where
 |mk (v:V) (σ':St) (H':Hp) (i:Inv X pins σ' H' s') (r:RelV v u) (p:q v H'):SR X pins q u s'
def SP (X:Cx) (pins:List (Addr×Obj)) (D:DU) (f:Flow) (s':Shared):Prop:=
 match f with
 |.next=>SN X pins D.nx s'
 |.brk=>SN X pins D.bk s'
 |.cont=>SN X pins D.ct s'
 |.ret u=>SR X pins D.rt u s'
def PE (X:Cx) (e:Expr) (t:TE):Prop:=
 ∀(pins:List (Addr×Obj)) (s:Shared) (σ:St) (H:Hp) (Q:VK),Inv X pins σ H s→t σ H Q→wpAny (model X.prog X.w) X.A (eval e X.env) (EP X pins σ Q) X.xe s
def PT (X:Cx) (e:Expr) (t:TT):Prop:=
 ∀(pins:List (Addr×Obj)) (s:Shared) (σ:St) (H:Hp) (Q:Bool→Hp→Prop),Inv X pins σ H s→t σ H Q→wpAny (model X.prog X.w) X.A (isTrue e X.env (eval e X.env)) (TP X pins σ Q) X.xe s
def PW (X:Cx) (e:Expr) (t:TT):Prop:=
 ∀(Fc:Sem Value) (pins:List (Addr×Obj)) (s:Shared) (σ:St) (H:Hp) (Q:Bool→Hp→Prop),Inv X pins σ H s→t σ H Q→wpAny (model X.prog X.w) X.A (isTrue e X.env Fc) (TP X pins σ Q) X.xe s
theorem PW.pt {X:Cx} {e:Expr} {t:TT} (h:PW X e t):PT X e t:=h _
def PA (X:Cx) (es:List Expr) (t:TA):Prop:=
 ∀(pos:Pos) (pins:List (Addr×Obj)) (s:Shared) (σ:St) (H:Hp) (Q:List V→Hp→Prop),Inv X pins σ H s→t σ H Q→wpAny (model X.prog X.w) X.A (spliced (backTo pos (starEach es X.env))) (AP X pins σ Q) X.xe s
def PS (X:Cx) (st:Stmt) (t:TS):Prop:=
 ∀(pins:List (Addr×Obj)) (s:Shared) (σ:St) (H:Hp) (D:DU),Inv X pins σ H s→t D σ H→wpAny (model X.prog X.w) X.A (exec st X.env) (SP X pins D) X.xe s
def DW (X:Cx) (st:List Stmt) (t:TS):Prop:=
 ∀(pins:List (Addr×Obj)) (s:Shared) (σ:St) (H:Hp) (D:DU),Inv X pins σ H s→t D σ H→wpAny (model X.prog X.w) X.A (execs st X.env) (SP X pins D) X.xe s
theorem Ax {α:Type} {t:Sem α} {Q Q':α→Shared→Prop} {M:Model} {A:Around} {E:Value→Shared→Prop} {s:Shared} (h:wpAny M A t Q E s) (hQ:∀a s,Q a s→Q' a s):wpAny M A t Q' E s:=wpAny_mono h hQ fun _ _ x=>x
section
variable {X:Cx}
def MP (i:Nat):TE:=fun σ H Q=>∃v,σ[i]?=some (some v)∧Q v H
def tC (v:V):TE:=fun _ H Q=>Q v H
theorem MQ {i:Nat} {x:Str} {pos:Pos} (hN:X.N[i]?=some x) (hv:Kv X.env.scope x) (hd:(x==("__debug__":Str))=false:=by decide) (hcd:(x==("__classdict__":Str))=false:=by decide):PE X (.Name x pos) (MP i):=by
 intro pins s σ H Q I h
 obtain ⟨v,e,h⟩:=h
 obtain ⟨m,hn,hl⟩:=I.loc
 obtain ⟨u,r,l⟩:=hl i x v hN e hv
 have A1:EP X pins σ Q u s:=⟨v,H,I,r,h⟩
 rcases l with ⟨hk,hm⟩ |⟨hk,c,hc,hcell⟩
 ·exact wpAny_Name (wpAny_loadName_local I.ok.kind hk hn hm A1) hd
 ·rcases hk with hk |hk
  ·exact wpAny_Name (wpAny_loadName_cell I.ok.kind hk hc hcell A1) hd
  ·exact wpAny_Name (wpAny_loadName_free I.ok.kind hk hc hcell A1 hcd) hd
theorem Uk {i j pos}:PE X (.Constant (.int i) j pos) (tC (.int i)):=fun _ _ _ H _ I h=>wpAny_Constant_int ⟨.int i,H,I.tok _,⟨_,rfl⟩,h⟩
theorem Ul {b j pos}:PE X (.Constant (.bool b) j pos) (tC (.bl b)):=fun _ _ _ H _ I h=>Constant_bool ⟨.bl b,H,I,rfl,h⟩
theorem Um {j pos}:PE X (.Constant .none j pos) (tC .non):=fun _ _ _ H _ I h=>Constant_none ⟨.non,H,I,rfl,h⟩
theorem Uo {x j pos}:PE X (.Constant (.str x) j pos) (tC (.str x)):=fun _ _ _ H _ I h=>Calls.Constant_str ⟨.str x,H,I.tok _,⟨_,rfl⟩,h⟩
def Gl (X:Cx) (x:Str):Prop:=X.env.kindOf x=some .globalImplicit
theorem Gw {E:Value→Shared→Prop} {pins:List (Addr×Obj)} {s:Shared} {σ:St} {H:Hp} {x:Str} {u:Value} {pos:Pos} {Q:Value→Shared→Prop} (I:Inv X pins σ H s) (hg:Gl X x) (hm:X.mg x=some u) (h:Q u s)
 (hd:(x==("__debug__":Str))=false:=by decide):wpAny (model X.prog X.w) X.A (eval (.Name x pos) X.env) Q E s:=
 Calls.Name_function_global I.ok.kind hg (Calls.loadGlobal_global (by rw [I.ok.glob];exact I.mod.glob.keeps I.bk) hm h) hd
theorem Gx {E:Value→Shared→Prop} {pins:List (Addr×Obj)} {s:Shared} {σ:St} {H:Hp} {x:Str} {u:Value} {pos:Pos} {Q:Value→Shared→Prop} (I:Inv X pins σ H s) (hg:Gl X x) (hm:X.mg x=none) (hv:bootBuiltins x=some u) (h:Q u s)
 (hn:x≠"__name__":=by decide) (hd:(x==("__debug__":Str))=false:=by decide):wpAny (model X.prog X.w) X.A (eval (.Name x pos) X.env) Q E s:=by
 obtain ⟨mb,h1,h2⟩:=I.mod.blt
 exact Calls.Name_function_global I.ok.kind hg (Calls.loadGlobal_builtin (by rw [I.ok.glob];exact I.mod.glob.keeps I.bk) hm (by rw [I.ok.blt];exact h1.keeps I.bk) ((h2 x hn).trans hv) h) hd
theorem Up {x:Str} {v:V} {u:Value} {pos:Pos} (hg:Gl X x) (hm:X.mg x=some u) (r:RelV v u) (hd:(x==("__debug__":Str))=false:=by decide):PE X (.Name x pos) (tC v):=
 fun _ _ _ H _ I h=>Gw I hg hm ⟨v,H,I,r,h⟩ hd
theorem Uq {x:Str} {v:V} {u:Value} {pos:Pos} (hg:Gl X x) (hm:X.mg x=none) (hv:bootBuiltins x=some u) (r:RelV v u) (hn:x≠"__name__":=by decide) (hd:(x==("__debug__":Str))=false:=by decide):PE X (.Name x pos) (tC v):=
 fun _ _ _ H _ I h=>Gx I hg hm hv ⟨v,H,I,r,h⟩ hn hd
variable {a b:Expr} {ta tb:TE} {pos:Pos}
variable {tA tB':TT} {rest:List Expr}
def Ur (t u:TT):TT:=fun σ H Q=>t σ H fun c H1=>if c=true then Q true H1 else u σ H1 Q
def Us (t:TT):TT:=fun σ H Q=>t σ H fun c H1=>Q (!c) H1
theorem Ut (ha:PT X a tA):PW X (.BoolOp .Or [a] pos) tA:=by
 intro wh pins s σ H Q I h
 refine isTrue_or (Ax (ha pins s σ H Q I h) fun c s1 e=>?_)
 cases c with
 |false=>exact isTrue_or_nil e
 |true=>exact e
theorem Uu (ha:PT X a tA) (hb:PW X (.BoolOp .Or (b::rest) pos) tB'):PW X (.BoolOp .Or (a::b::rest) pos) (Ur tA tB'):=by
 intro wh pins s σ H Q I h
 refine isTrue_or (Ax (ha pins s σ H _ I h) fun c s1 z9_=>?_)
 obtain ⟨H1,I1,q1⟩:=z9_
 cases c with
 |true=>exact ⟨H1,I1,q1⟩
 |false=>exact hb wh pins s1 σ H1 Q I1 q1
theorem Uv (ha:PT X a tA):PT X (.UnaryOp .Not a pos) (Us tA):=by
 intro pins s σ H Q I h
 exact isTrue_not (Ax (ha pins s σ H (fun c H1=>Q (!c) H1) I h) fun c s1 z=>by cases z with |mk H1 I1 q=>exact ⟨H1,I1,q⟩)
def Uw (ta tb:TE):TE:=fun σ H Q=>ta σ H fun x H1=>∃c,x=.bl c∧if c=true then tb σ H1 Q else Q (.bl false) H1
def Zc5 (ta tb:TE):TE:=fun σ H Q=>ta σ H fun x H1=>∃c,x=.bl c∧if c=true then Q (.bl true) H1 else tb σ H1 Q
def Ux (ta:TE):TE:=fun σ H Q=>ta σ H fun x H1=>∃c,x=.bl c∧Q (.bl (!c)) H1
theorem Uy {op} {t:TE} (h:PE X a t):PE X (.BoolOp op [a] pos) t:=fun pins s σ H Q I hw=>BoolOp_one (h pins s σ H Q I hw)
theorem Uz (ha:PE X a ta) (hb:PE X (.BoolOp .And (b::rest) pos) tb):PE X (.BoolOp .And (a::b::rest) pos) (Uw ta tb):=by
 intro pins s σ H Q I h
 refine BoolOp_and (Ax (ha pins s σ H _ I h) fun v s1 z10_=>?_)
 obtain ⟨x,H1,I1,r1,q1⟩:=z10_
 obtain ⟨c,rfl,q1⟩:=q1
 cases r1
 refine wpAny_truthy_bool ?_
 cases c with
 |true=>exact hb pins s1 σ H1 Q I1 q1
 |false=>exact ⟨.bl false,H1,I1,rfl,q1⟩
theorem UA (ha:PE X a ta):PE X (.UnaryOp .Not a pos) (Ux ta):=by
 intro pins s σ H Q I h
 refine UnaryOp_ (Ax (ha pins s σ H _ I h) fun v s1 z12_=>?_)
 obtain ⟨x,H1,I1,r1,q1⟩:=z12_
 obtain ⟨c,rfl,q1⟩:=q1
 cases r1
 exact not_of (wpAny_truthy_bool ⟨.bl (!c),H1,I1,rfl,q1⟩)
def UB (t:TT) (ta tb:TE):TE:=fun σ H Q=>t σ H fun c H1=>if c=true then ta σ H1 Q else tb σ H1 Q
theorem UC {c:Expr} (hc:PT X c tA) (ha:PE X a ta) (hb:PE X b tb):PE X (.IfExp c a b pos) (UB tA ta tb):=by
 intro pins s σ H Q I h
 refine wpAny_IfExp (Ax (hc pins s σ H _ I h) fun d s1 z13_=>?_)
 obtain ⟨H1,I1,q1⟩:=z13_
 cases d with
 |true=>exact ha pins s1 σ H1 Q I1 q1
 |false=>exact hb pins s1 σ H1 Q I1 q1
end
def SqL (K:PySem.W.Frag) (H:Hp) (a:Addr) (xs:List V):Prop:=
 Rd H a (.lst xs)∨
  ∃(o:Obj) (its:Array Value) (n:Nat),K.lookup a=some o∧o.cls=.type "list"∧o.dict=none∧o.data=.seq its n∧its.size≤sizeLine∧Vals xs its.toList
def SqT (K:PySem.W.Frag) (H:Hp) (a:Addr) (xs:List V):Prop:=
 Rd H a (.tup xs)∨
  ∃(o:Obj) (its:Array Value) (n:Nat),K.lookup a=some o∧o.cls=.type "tuple"∧o.data=.seq its n∧its.size≤sizeLine∧Vals xs its.toList
def UD:Value→Option V
 |.none=>some .non
 |.bool b=>some (.bl b)
 |.int i _=>some (.int i)
 |.str x _=>some (.str x)
 |.bytes b _=>some (.byt b)
 |.float b _=>some (.flt b)
 |.ref a=>some (.ref a)
 |.type n=>some (.ty n)
 |_=>none
theorem RelV.abs {x:V} {u:Value} (r:RelV x u):UD u=some x:=by
 cases x with
 |non=>cases r;rfl
 |bl _=>cases r;rfl
 |int _=>obtain ⟨t,rfl⟩:=r;rfl
 |str _=>obtain ⟨t,rfl⟩:=r;rfl
 |byt _=>obtain ⟨t,rfl⟩:=r;rfl
 |flt _=>obtain ⟨t,rfl⟩:=r;rfl
 |ref _=>cases r;rfl
 |ty _=>cases r;rfl
theorem RelV.inj {x y:V} {u:Value} (r:RelV x u) (q:RelV y u):x=y:=Option.some.inj (r.abs.symm.trans q.abs)
theorem Vals.inj {xs ys:List V} {us:List Value} (h:Vals xs us) (g:Vals ys us):xs=ys:=by
 induction h generalizing ys with
 |nil=>cases g;rfl
 |cons r t ih=>cases g with |cons r' t'=>rw [r.inj r',ih t']
section
variable {X:Cx} {pins:List (Addr×Obj)} {σ:St} {H:Hp} {s:Shared} {a:Addr} {xs ys:List V}
theorem SqL.of {K:PySem.W.Frag} (h:H a=some (.lst xs)):SqL K H a xs:=.inl (.inl h)
theorem SqT.of {K:PySem.W.Frag} (h:H a=some (.tup xs)):SqT K H a xs:=.inl (.inl h)
theorem Inv.list (I:Inv X pins σ H s) (h:SqL X.K H a xs):∃its:List Value,Vals xs its∧PlainL s.heap a its.toArray∧xs.length≤sizeLine:=by
 rcases h with h |⟨o,its,n,hk,hc,hd,hs,hz,r⟩
 ·obtain ⟨z,its,n,r,e⟩:=h.ok I.hok
  exact ⟨its,r,⟨_,n,e,rfl,rfl,rfl⟩,z⟩
 ·refine ⟨its.toList,r,⟨o,n,I.kIn a o hk,hc,hd,by simpa using hs⟩,?_⟩
  have e:=r.length
  simp only [Array.length_toList] at e
  omega
theorem Inv.tuple (I:Inv X pins σ H s) (h:SqT X.K H a xs):∃its:List Value,Vals xs its∧IsTup s.heap a its.toArray∧xs.length≤sizeLine:=by
 rcases h with h |⟨o,its,n,hk,hc,hs,hz,r⟩
 ·obtain ⟨z,its,r,p,_⟩:=h.ok I.hok
  exact ⟨its,r,p,z⟩
 ·refine ⟨its.toList,r,⟨o,I.kIn a o hk,hc,n,by simpa using hs⟩,?_⟩
  have e:=r.length
  simp only [Array.length_toList] at e
  omega
theorem Inv.list_inj (I:Inv X pins σ H s) (h:SqL X.K H a xs) (h':SqL X.K H a ys):xs=ys:=by
 obtain ⟨its,r,⟨o,n,e,_,_,d⟩,_⟩:=I.list h
 obtain ⟨its',r',⟨o',n',e',_,_,d'⟩,_⟩:=I.list h'
 rw [e] at e';cases e'
 rw [d] at d'
 injection d' with d1 _
 have:its=its':=by simpa using congrArg Array.toList d1
 subst this
 exact r.inj r'
theorem Inv.tuple_inj (I:Inv X pins σ H s) (h:SqT X.K H a xs) (h':SqT X.K H a ys):xs=ys:=by
 obtain ⟨its,r,⟨o,e,_,n,d⟩,_⟩:=I.tuple h
 obtain ⟨its',r',⟨o',e',_,n',d'⟩,_⟩:=I.tuple h'
 rw [e] at e';cases e'
 rw [d] at d'
 injection d' with d1 _
 have:its=its':=by simpa using congrArg Array.toList d1
 subst this
 exact r.inj r'
end
section
variable {X:Cx} {pins:List (Addr×Obj)} {σ:St} {H:Hp} {s:Shared} {E:Value→Shared→Prop}
end
section
variable {X:Cx} {st:Stmt} {rest:List Stmt} {t u:TS} {e:Expr} {te:TE} {pos:Pos}
def UE:TS:=fun D σ H=>D.nx σ H
def UF (t u:TS):TS:=fun D σ H=>t {D with nx:=u D} σ H
theorem UG:DW X [] UE:=fun _ _ σ H _ I h=>wpAny_execs_nil ⟨σ,H,I,h⟩
theorem UH (h1:PS X st t) (h2:DW X rest u):DW X (st::rest) (UF t u):=by
 intro pins s σ H D I h
 refine wpAny_execs_cons (Ax (h1 pins s σ H {D with nx:=u D} I h) fun f s1 q=>?_)
 cases f with
 |next=>
  obtain ⟨σ',H',I',q⟩:=q
  exact h2 pins s1 σ' H' D I' q
 |ret v=>exact q
 |brk=>exact q
 |cont=>exact q
theorem UI (h1:PS X st t):DW X [st] t:=by
 intro pins s σ H D I h
 refine wpAny_execs_cons (Ax (h1 pins s σ H D I h) fun f s1 q=>?_)
 cases f with
 |next=>exact wpAny_execs_nil q
 |ret v=>exact q
 |brk=>exact q
 |cont=>exact q
theorem Inv.quiet {pins:List (Addr×Obj)} {σ:St} {H:Hp} {s:Shared} (I:Inv X pins σ H s):interactive X.env=false:=by simp [interactive,I.ok.kind]
def UJ (te:TE):TS:=fun D σ H=>te σ H fun _ H1=>D.nx σ H1
theorem UK (he:PE X e te) (hs:swapsWith e none pos.line X.env=pure false:=by rfl):PS X (.Expr e pos) (UJ te):=by
 intro pins s σ H D I h
 exact wpAny_Expr_any (Ax (he pins s σ H _ I h) fun v s1 z16_=>by obtain ⟨x,H1,I1,r1,q1⟩:=z16_;exact (⟨σ,H1,I1,q1⟩)) I.quiet hs
def UL (te:TE):TS:=fun D σ H=>te σ H D.rt
theorem UM (he:PE X e te):PS X (.Return (some e) pos) (UL te):=by
 intro pins s σ H D I h
 exact wpAny_Return_some (Ax (he pins s σ H _ I h) fun v s1 z17_=>by obtain ⟨x,H1,I1,r1,q1⟩:=z17_;exact (⟨x,σ,H1,I1,r1,q1⟩))
def UN (c:TT) (t u:TS):TS:=fun D σ H=>c σ H fun b H1=>if b=true then t D σ H1 else u D σ H1
theorem UO {c:Expr} {a b:List Stmt} {tc:TT} (hc:PT X c tc) (ha:DW X a t) (hb:DW X b u):PS X (.If c a b pos) (UN tc t u):=by
 intro pins s σ H D I h
 refine wpAny_If (Ax (hc pins s σ H _ I h) fun d s1 z18_=>?_)
 obtain ⟨H1,I1,q1⟩:=z18_
 cases d with
 |true=>exact ha pins s1 σ H1 D I1 q1
 |false=>exact hb pins s1 σ H1 D I1 q1
def UP:TS:=fun _ _ _=>False
theorem UQ {sts:List Stmt}:DW X sts UP:=fun _ _ _ _ _ _ h=>h.elim
end
abbrev TG:=V→St→Hp→(St→Hp→Prop)→Prop
abbrev FV:=List V→St→Hp→(St→Hp→Prop)→Prop
def PG (X:Cx) (target:Expr) (t:TG):Prop:=
 ∀(pins:List (Addr×Obj)) (s:Shared) (σ:St) (H:Hp) (v:V) (u:Value) (Q:St→Hp→Prop),Inv X pins σ H s→RelV v u→t v σ H Q→
  wpAny (model X.prog X.w) X.A (assign target X.env u) (fun _ s'=>SN X pins Q s') X.xe s
def Ky (X:Cx) (ts:List Expr) (t:FV):Prop:=
 ∀(pins:List (Addr×Obj)) (s:Shared) (σ:St) (H:Hp) (vs:List V) (us:List Value) (Q:St→Hp→Prop),Inv X pins σ H s→Vals vs us→t vs σ H Q→
  wpAny (model X.prog X.w) X.A (assignInOrder ((assignEach ts X.env).map (·.2)) us) (fun _ s'=>SN X pins Q s') X.xe s
abbrev MR:=V→V→V→Hp→(Hp→Prop)→Prop
def Pk (X:Cx) (t:MR):Prop:=
 ∀(pins:List (Addr×Obj)) (s:Shared) (σ:St) (H:Hp) (o i v:V) (ov iv u:Value) (Q:Hp→Prop),Inv X pins σ H s→RelV o ov→RelV i iv→RelV v u→t o i v H Q→
  wpAny (model X.prog X.w) X.A (setItem ov iv u) (fun _ s'=>∃H',Inv X pins σ H' s'∧Q H') X.xe s
section
variable {X:Cx} {pos:Pos}
def De (i:Nat):TG:=fun v σ H Q=>Q (σ.set i (some v)) H
theorem AR {i:Nat} {x:Str} (hN:X.N.Nodup) (hi:X.N[i]?=some x) (hx:HK X.env.scope x) (hf:X.fn x=true∨X.env.scope.names.lookup x=some .local:=by first |exact .inl rfl |exact .inr rfl |assumption):PG X (.Name x pos) (De i):=by
 intro pins s σ H v u Q I r h
 exact wpAny_assign_Name (Kx I hN hi hx r (fun s' I'=>⟨_,H,I',h⟩) hf)
def Gy:FV:=fun vs σ H Q=>vs=[]∧Q σ H
def DX (t:TG) (u:FV):FV:=fun vs σ H Q=>∃v r,vs=v::r∧t v σ H fun σ' H'=>u r σ' H' Q
theorem MU:Ky X [] Gy:=by
 intro pins s σ H vs us Q I r h
 obtain ⟨e,h⟩:=h
 subst e
 cases r
 exact assignInOrder_nil ⟨σ,H,I,h⟩
theorem HL {e:Expr} {es:List Expr} {t:TG} {u:FV} (h1:PG X e t) (h2:Ky X es u)
 (hs:(assignEach (e::es) X.env).map (·.2)=assign e X.env::(assignEach es X.env).map (·.2):=by rfl):Ky X (e::es) (DX t u):=by
 intro pins s σ H vs us Q I r h
 obtain ⟨v,vr,e1,h⟩:=h
 subst e1
 cases r with
 |cons r rr=>
  rw [hs]
  refine assignInOrder_cons (Ax (h1 pins s σ H _ _ _ I r h) fun _ s1 z19_=>?_)
  obtain ⟨σ1,H1,I1,q1⟩:=z19_
  exact h2 pins s1 σ1 H1 _ _ Q I1 rr q1
def Gz (K:PySem.W.Frag) (n:Nat) (t:FV):TG:=fun v σ H Q=>∃a xs,v=.ref a∧SqT K H a xs∧xs.length=n∧t xs σ H Q
theorem MV {es:List Expr} {k:Nat} {t:FV} {n:Nat} (hc:X.calm=true) (h:Ky X es t)
 (hn:(assignEach es X.env).length=n:=by rfl) (hst:(assignEach es X.env).findIdx? (·.1)=none:=by rfl):PG X (.Tuple es k pos) (Gz X.K n t):=by
 intro pins s σ H v u Q I r hw
 obtain ⟨a,xs,e1,hq,hl,hw⟩:=hw
 subst e1
 cases r
 obtain ⟨its,rv,ht,hz⟩:=I.tuple hq
 refine assign_Tuple_tuple (I.ok.hd hc) ht (by simp [hn,←hl,rv.length]) hst fun h' hx=>?_
 have I1:Inv X pins σ H {s with heap:=h'}:=I.kept (t':=s.toks) fun b o e=>hx b o (Bg (AE e)) e
 exact h pins _ σ H xs _ Q I1 (by simpa using rv) hw
def UR (to ti:TE) (t:MR):TG:=fun v σ H Q=>to σ H fun o H1=>ti σ H1 fun i H2=>t o i v H2 fun H3=>Q σ H3
theorem US {o i:Expr} {to ti:TE} {t:MR} (ho:PE X o to) (hi:PE X i ti) (hs:Pk X t)
 (ha:∀v,assign (.Subscript o i pos) X.env v=(do
  let ov ←holding [v] (eval o X.env)
  let iv ←holding [v,ov] (eval i X.env)
  standAt pos
  holding [v,ov,iv] (setItem ov iv v)
  release [v,ov,iv] []):=by intro _;rfl):PG X (.Subscript o i pos) (UR to ti t):=by
 intro pins s σ H v u Q I r h
 rw [ha]
 refine wpAny_bind (wpAny_holding (Ax (ho pins s σ H _ I h) fun ov s1 z20_=>?_))
 obtain ⟨x,H1,I1,r1,q1⟩:=z20_
 refine wpAny_bind (wpAny_holding (Ax (hi pins s1 σ H1 _ I1 q1) fun iv s2 z21_=>?_))
 obtain ⟨y,H2,I2,r2,q2⟩:=z21_
 refine wpAny_bind (wpAny_standAt (wpAny_bind (wpAny_holding (Ax (hs pins s2 σ H2 x y v ov iv u _ I2 r1 r2 r q2) fun _ s3 z22_=>?_))))
 obtain ⟨H3,I3,q3⟩:=z22_
 exact wpAny_release ⟨σ,H3,I3,q3⟩
def Pl (te:TE) (g:TG):TS:=fun D σ H=>te σ H fun x H1=>g x σ H1 D.nx
theorem Pm {tg e:Expr} {te:TE} {g:TG} (he:PE X e te) (hg:PG X tg g) (hs:swapsWithSole [tg] e pos.line X.env=pure false:=by rfl) (hw:swappedStores [tg] e X.env=pure none:=by rfl)
 (h1:(assignEach [tg] X.env).map (·.2)=[assign tg X.env]:=by rfl):PS X (.Assign [tg] e pos) (Pl te g):=by
 intro pins s σ H D I h
 refine wpAny_Assign_stores (Ax (he pins s σ H _ I h) fun v s1 z23_=>?_) hs hw
 obtain ⟨x,H1,I1,r1,q1⟩:=z23_
 rw [h1]
 exact Ax (hg pins s1 σ H1 x v _ I1 r1 q1) fun _ s2 q=>q
theorem UT {i:Nat} {x:Str} {e:Expr} {te:TE} {pos':Pos} (hN:X.N.Nodup) (hi:X.N[i]?=some x) (hx:HK X.env.scope x) (he:PE X e te) (hs:swapsWith e (some (.Name x pos')) pos.line X.env=pure false:=by rfl) (hf:X.fn x=true∨X.env.scope.names.lookup x=some .local:=by first |exact .inl rfl |exact .inr rfl |assumption):
 PS X (.Assign [.Name x pos'] e pos) (Pl te (De i)):=by
 intro pins s σ H D I h
 refine wpAny_Assign_Name (Ax (he pins s σ H _ I h) fun v s1 z24_=>?_) hs
 obtain ⟨y,H1,I1,r1,q1⟩:=z24_
 exact Kx I1 hN hi hx r1 (fun s2 I2=>⟨_,H1,I2,q1⟩) hf
def UU (i j:Nat) (ta:TA):TS:=fun D σ H=>ta σ H fun vs H1=>∃v w,vs=[v,w]∧D.nx ((σ.set i (some v)).set j (some w)) H1
theorem UV {i j:Nat} {x y:Str} {a b:Expr} {ta:TA} {px py pt:Pos} {kt k2 pt2} (hc:X.calm=true) (hN:X.N.Nodup) (hi:X.N[i]?=some x) (hj:X.N[j]?=some y) (hij:i≠j)
 (hx:X.env.scope.names.lookup x=some .local) (hy:X.env.scope.names.lookup y=some .local) (ha:PA X [a,b] ta)
 (hw:swappedStores [.Tuple [.Name x px,.Name y py] kt pt] (.Tuple [a,b] k2 pt2) X.env=pure (some [x,y]))
 (hs:swapsWithSole [.Tuple [.Name x px,.Name y py] kt pt] (.Tuple [a,b] k2 pt2) pos.line X.env=pure false:=by rfl):
 PS X (.Assign [.Tuple [.Name x px,.Name y py] kt pt] (.Tuple [a,b] k2 pt2) pos) (UU i j ta):=by
 intro pins s σ H D I h
 rw [exec_Assign_arm]
 refine wpAny_bind (wpAny_standAt ?_)
 rw [hs]
 refine wpAny_bind (wpAny_pure ?_)
 rw [if_neg (by decide)]
 refine wpAny_bind (Tuple_ (Ax (ha _ pins s σ H _ I h) fun us s1 z25_=>?_))
 obtain ⟨vs,H1,I1,r1,q1⟩:=z25_
 obtain ⟨v,w,e1,q1⟩:=q1
 subst e1
 obtain ⟨u1,u2,rfl,rv,rw'⟩:∃u1 u2,us=[u1,u2]∧RelV v u1∧RelV w u2:=by
  cases r1 with
  |cons p q=>
   cases q with
   |cons p' q'=>
    cases q'
    exact ⟨_,_,rfl,p,p'⟩
 refine wpAny_newObj_type ?_ (by show 2≤sizeLine;decide)
 have I2:Inv X pins σ H1 {s1 with heap:=s1.heap.push {cls:=.type "tuple",data:=.seq [u1,u2].toArray}}:=I1.kept (t':=s1.toks) fun b o e=>AB _ e
 rw [hw]
 refine wpAny_bind (wpAny_pure ?_)
 show wpAny (model X.prog X.w) X.A (do rule "assign.swapped-stores";let items ←unpackItems (.ref s1.heap.objs.size) 2 none;assignInOrder [fun v=>bindName X.env y v,fun v=>bindName X.env x v] items.reverse;pure Flow.next) _ _ _
 refine wpAny_bind (wpAny_rule (wpAny_bind (unpackItems_tuple (items:=#[u1,u2]) (I.ok.hd hc) (IsTup.new s1.heap _) fun h' hx'=>?_)))
 have I3:=I2.kept (h':=h') (t':=s1.toks) fun b o e=>hx' b o (Bg (AE e)) e
 show wpAny _ _ (assignInOrder [fun v=>bindName X.env y v,fun v=>bindName X.env x v] [u2,u1] >>=fun _=>pure Flow.next) _ _ _
 refine wpAny_bind (assignInOrder_cons (wpAny_bindName (Kx I3 hN hj (.inl hy) rw' (fun s2 I4=>?_) (.inr hy))))
 refine assignInOrder_cons (wpAny_bindName (Kx I4 hN hi (.inl hx) rv (fun s3 I5=>assignInOrder_nil (wpAny_pure ?_)) (.inr hx)))
 rw [List.set_comm _ _ (Ne.symm hij)] at I5
 exact ⟨_,H1,I5,q1⟩
end
section
variable {X:Cx} {pos:Pos}
end
structure It where
 go:Nat→Hp→Prop
 yld:Nat→Hp→V→Hp→Prop
 stop:Nat→Hp→Prop
def EO (X:Cx) (pins:List (Addr×Obj)) (H:Hp) (b:Addr):Prop:=
 H b=none∧b≠X.env.locals∧b∉X.fs∧(b∈X.ex∨X.s₀.heap.objs.size≤b)∧(∀x c,X.env.cells.lookup x=some c→c≠b)∧∀p∈X.pn++pins,p.1≠b
theorem Inv.fpOk {X:Cx} {pins:List (Addr×Obj)} {σ:St} {H H':Hp} {s:Shared} {b:Addr} (I:Inv X pins σ H s) (hb:s.heap.objs.size≤b) (hn:H' b=none):EO X pins H' b:=by
 refine ⟨hn,BP (A0 I.lt hb),I.nofs hb,.inr (Ca I.sz hb),fun x c e z=>?_,fun p hp z=>?_⟩
 ·obtain ⟨v,q⟩:=I.cell x c e
  exact absurd (A0 q.lt (by rw [z];exact hb)) (Dw _)
 ·exact absurd (A0 (AE (I.pin p hp).1) (by rw [z];exact hb)) (Dw _)
structure GA (P:Program) (w:World) (K:PySem.W.Frag) (tg:Expr) (J:It) (fp:List Addr) (it:Addr) (tn:Nat→Heap→Prop):Prop where
 mem:it∈fp
 obj:∀i h,tn i h→∀b∈fp,∃o,h.get? b=some o∧∀v,o.data≠.cell v
 keep:∀i h h',tn i h→(∀b∈fp,∀o,h.get? b=some o→h'.get? b=some o)→tn i h'
 item:∀(X:Cx),X.prog=P→X.w=w→X.K=K→X.calm=true→∀(i:Nat) (pins:List (Addr×Obj)) (s:Shared) (σ:St) (H:Hp) (E:Value→Shared→Prop),Inv X pins σ H s→(∀b∈fp,EO X pins H b)→tn i s.heap→J.go i H→
  wpAny (model P w) X.A (pyNext (.ref it)) (fun r s1=>∃u,r=some u∧
   wpAny (model P w) X.A (letOwnedTupleGo tg (.ref it) u) (fun _ s2=>∃x H',Inv X pins σ H' s2∧RelV x u∧J.yld i H x H'∧tn (i+1) s2.heap∧∀b∈fp,H' b=none) E s1) E s
 done:∀(X:Cx),X.prog=P→X.w=w→X.K=K→X.calm=true→∀(i:Nat) (pins:List (Addr×Obj)) (s:Shared) (σ:St) (H:Hp) (E:Value→Shared→Prop),Inv X pins σ H s→(∀b∈fp,EO X pins H b)→tn i s.heap→J.stop i H→
  wpAny (model P w) X.A (pyNext (.ref it)) (fun r s1=>r=none∧Inv X pins σ H s1) E s
 self:∀(A:Around) (i:Nat) (s:Shared) (Q:Value→Shared→Prop) (E:Value→Shared→Prop),tn i s.heap→Q (.ref it) s→wpAny (model P w) A (pyIter (.ref it)) Q E s
abbrev TI:=St→Hp→(It→Hp→Prop)→Prop
inductive MW (X:Cx) (pins:List (Addr×Obj)) (σ:St) (tg:Expr) (R:It→Hp→Prop) (itv:Value) (s2:Shared):Prop where
 |mk (it:Addr) (fp:List Addr) (tn:Nat→Heap→Prop) (J:It) (H':Hp) (e:itv=.ref it) (i:Inv X pins σ H' s2) (t:GA X.prog X.w X.K tg J fp it tn) (st:tn 0 s2.heap) (f:∀b∈fp,EO X pins H' b) (r:R J H'):MW X pins σ tg R itv s2
def PI (X:Cx) (tg iter:Expr) (wi:TI):Prop:=
 ∀(pins:List (Addr×Obj)) (s:Shared) (σ:St) (H:Hp) (R:It→Hp→Prop),Inv X pins σ H s→wi σ H R→
  wpAny (model X.prog X.w) X.A (eval iter X.env) (fun v s1=>wpAny (model X.prog X.w) X.A (pyIter v) (MW X pins σ tg R) X.xe s1) X.xe s
theorem MX {M:Model} {A:Around} {E:Value→Shared→Prop} {s:Shared} {tg:Expr} {it:Addr} {u:Value} {o:Obj} {n:String} {vs:Array Value} {Q:Unit→Shared→Prop} (ho:s.heap.get? it=some o) (hc:o.cls=.type n) (hd:o.data=.fields vs)
 (hn:["enumerate","zip","dict_itemiterator","dict_reverseitemiterator","odict_iterator","itertools.zip_longest","itertools.pairwise"].contains n=false) (hQ:Q () s):wpAny M A (letOwnedTupleGo tg (.ref it) u) Q E s:=by
 unfold letOwnedTupleGo
 cases tg<;>first
  |exact wpAny_pure hQ
  |(cases u<;>first
   |exact wpAny_pure hQ
   |(refine wpAny_bind (wpAny_load ho ?_)
     rw [hc,hd]
     show wpAny M A (if (["enumerate","zip","dict_itemiterator","dict_reverseitemiterator","odict_iterator","itertools.zip_longest","itertools.pairwise"].contains n&&vs[0]?==some (rawInt _))=true then _ else _) Q E s
     rw [if_neg (by intro h;rw [hn,Ks] at h;cases h)]
     exact wpAny_pure hQ))
def Jb (K:PySem.W.Frag) (a:Addr):It:=
 ⟨fun i H=>∃xs x,SqL K H a xs∧xs[i]?=some x,fun i H x H'=>H'=H∧∀xs,SqL K H a xs→xs[i]?=some x,fun i H=>∃xs,SqL K H a xs∧xs.length≤i⟩
def Jc (K:PySem.W.Frag) (a:Addr):It:=
 ⟨fun i H=>∃xs x,SqT K H a xs∧xs[i]?=some x,fun i H x H'=>H'=H∧∀xs,SqT K H a xs→xs[i]?=some x,fun i H=>∃xs,SqT K H a xs∧xs.length≤i⟩
def Jd (lo:Int) (n:Nat):It:=⟨fun i _=>i<n,fun i H x H'=>H'=H∧x=.int (lo+i),fun i _=>n≤i⟩
theorem UW {P:Program} {w:World} {K:PySem.W.Frag} {tg:Expr} (a it:Addr):GA P w K tg (Jb K a) [it] it (fun i h=>h.IsListIter it a i) where
 mem:=by simp
 obj:=fun i h st b hb=>by
  have e:b=it:=by simpa using hb
  subst e
  obtain ⟨o,e,c,d⟩:=st
  exact ⟨o,e,fun v z=>by rw [d] at z;cases z⟩
 keep:=fun i h h' st k=>st.at fun o e=>k it (by simp) o e
 item:=by
  intro X hP hw hK hc i pins s σ H E I hf st hg
  subst hP hw hK
  obtain ⟨xs,x,hq,hx⟩:=hg
  obtain ⟨its,rv,p,hz⟩:=I.list hq
  obtain ⟨u,hu,ru⟩:=rv.get hx
  obtain ⟨f0,f1,f2,f3,f4,f5⟩:=hf it (by simp)
  refine wpAny_pyNext_list_item st p.isList (x:=u) (by simpa using hu) fun h' st' sb=>?_
  have I1:Inv X pins σ H {s with heap:=h'}:=I.turned (t':=s.toks) (fun b o hb e=>(sb.2 b hb).trans e) f0 f1 f3 f4 f5
  obtain ⟨o,e,c,d⟩:=id st'
  exact ⟨u,rfl,MX (s:={s with heap:=h'}) e c d (by decide) ⟨x,H,I1,ru,⟨rfl,fun ys hy=>by rw [I.list_inj hy hq];exact hx⟩,st',fun b hb=>(hf b hb).1⟩⟩
 done:=by
  intro X hP hw hK hc i pins s σ H E I hf st hg
  subst hP hw hK
  obtain ⟨xs,hq,hx⟩:=hg
  obtain ⟨its,rv,p,hz⟩:=I.list hq
  obtain ⟨f0,f1,f2,f3,f4,f5⟩:=hf it (by simp)
  have hl:=rv.length
  exact wpAny_pyNext_list_end (I.ok.hd hc) st p.isList (by simp;omega) fun h' eb=>⟨rfl,I.turned (t':=s.toks) (fun b o hb e=>eb b o hb e) f0 f1 f3 f4 f5⟩
 self:=fun _ _ _ _ _ st h=>wpAny_pyIter_listiter st h
theorem UX {P:Program} {w:World} {K:PySem.W.Frag} {tg:Expr} (a it:Addr):GA P w K tg (Jc K a) [it] it (fun i h=>h.IsTupleIter it a i) where
 mem:=by simp
 obj:=fun i h st b hb=>by
  have e:b=it:=by simpa using hb
  subst e
  obtain ⟨o,e,c,d⟩:=st
  exact ⟨o,e,fun v z=>by rw [d] at z;cases z⟩
 keep:=fun i h h' st k=>st.at fun o e=>k it (by simp) o e
 item:=by
  intro X hP hw hK hc i pins s σ H E I hf st hg
  subst hP hw hK
  obtain ⟨xs,x,hq,hx⟩:=hg
  obtain ⟨its,rv,p,hz⟩:=I.tuple hq
  obtain ⟨u,hu,ru⟩:=rv.get hx
  obtain ⟨f0,f1,f2,f3,f4,f5⟩:=hf it (by simp)
  refine wpAny_pyNext_tuple_item st (show s.heap.IsTuple a its.toArray from p) (x:=u) (by simpa using hu) fun h' st' sb=>?_
  have I1:Inv X pins σ H {s with heap:=h'}:=I.turned (t':=s.toks) (fun b o hb e=>(sb.2 b hb).trans e) f0 f1 f3 f4 f5
  obtain ⟨o,e,c,d⟩:=id st'
  exact ⟨u,rfl,MX (s:={s with heap:=h'}) e c d (by decide) ⟨x,H,I1,ru,⟨rfl,fun ys hy=>by rw [I.tuple_inj hy hq];exact hx⟩,st',fun b hb=>(hf b hb).1⟩⟩
 done:=by
  intro X hP hw hK hc i pins s σ H E I hf st hg
  subst hP hw hK
  obtain ⟨xs,hq,hx⟩:=hg
  obtain ⟨its,rv,p,hz⟩:=I.tuple hq
  obtain ⟨f0,f1,f2,f3,f4,f5⟩:=hf it (by simp)
  have hl:=rv.length
  exact wpAny_pyNext_tuple_end (I.ok.hd hc) st (show s.heap.IsTuple a its.toArray from p) (by simp;omega) fun h' eb=>⟨rfl,I.turned (t':=s.toks) (fun b o hb e=>eb b o hb e) f0 f1 f3 f4 f5⟩
 self:=fun _ _ _ _ _ st h=>wpAny_pyIter_tupleiter st h
theorem UY {P:Program} {w:World} {K:PySem.W.Frag} {tg:Expr} (it:Addr) (lo:Int) (n:Nat):GA P w K tg (Jd lo n) [it] it (fun i h=>IsRangeIter h it (lo+(i:Nat)*1) ((n:Int) - (i:Nat)) 1) where
 mem:=by simp
 obj:=fun i h st b hb=>by
  have e:b=it:=by simpa using hb
  subst e
  exact ⟨_,st,fun v z=>by
   have z':Data.fields _=Data.cell v:=z
   cases z'⟩
 keep:=fun i h h' st k=>k it (by simp) _ st
 item:=by
  intro X hP hw hK hc i pins s σ H E I hf st hg
  subst hP hw hK
  obtain ⟨f0,f1,f2,f3,f4,f5⟩:=hf it (by simp)
  have W:=Walks.range (prog:=X.prog) (w:=X.w) (I.ok.hd hc) it lo 1 n
  refine W.item i s _ _ hg st fun v h' tk hv st' kk=>?_
  obtain ⟨t,rfl⟩:=hv
  have I1:Inv X pins σ H {s with heap:=h',toks:=tk}:=I.turned (fun b o hb e=>kk b o (by simpa using hb) e) f0 f1 f3 f4 f5
  refine ⟨_,rfl,MX (s:={s with heap:=h',toks:=tk}) (n:="range_iterator") st' rfl rfl (by decide) ⟨.int (lo+i),H,I1,⟨t,?_⟩,⟨rfl,rfl⟩,st',fun b hb=>(hf b hb).1⟩⟩
  rw [Int.mul_one]
 done:=by
  intro X hP hw hK hc i pins s σ H E I hf st hg
  subst hP hw hK
  obtain ⟨f0,f1,f2,f3,f4,f5⟩:=hf it (by simp)
  exact wpAny_pyNext_range_end (I.ok.hd hc) st (by have:n≤i:=hg;omega) fun h' eb=>⟨rfl,I.turned (t':=s.toks) (fun b o hb e=>eb b o hb e) f0 f1 f3 f4 f5⟩
 self:=fun _ _ _ _ _ st h=>wpAny_pyIter_rangeiter st h
section
variable {X:Cx} {tg:Expr}
theorem Pn {pins:List (Addr×Obj)} {σ:St} {H:Hp} {s:Shared} {R:It→Hp→Prop} {E:Value→Shared→Prop} {lo hi:Int} {t u v:Tok} {tk:Nat} (I:Inv X pins σ H s) (h1:-(2^62)≤lo) (h2:lo<2^62) (h3:-(2^62)≤hi) (h4:hi<2^62)
 (q:R (Jd lo (hi - lo).toNat) H):wpAny (model X.prog X.w) X.A (pyIter (.ref s.heap.objs.size)) (MW X pins σ tg R) E {s with heap:=s.heap.push {cls:=.type "range",data:=.fields #[.int lo t,.int hi u,.int 1 v]},toks:=tk}:=by
 refine wpAny_pyIter_range (IsRange.new ..) (small_one h1 h2 h3 h4) ?_
 have I1:Inv X pins σ H {s with heap:=s.heap.push {cls:=.type "range",data:=.fields #[.int lo t,.int hi u,.int 1 v]},toks:=tk}:=I.kept fun b o e=>AB _ e
 refine ⟨(s.heap.push {cls:=.type "range",data:=.fields #[.int lo t,.int hi u,.int 1 v]}).objs.size,[(s.heap.push {cls:=.type "range",data:=.fields #[.int lo t,.int hi u,.int 1 v]}).objs.size],_,_,H,rfl,
  I1.kept (t':=tk) fun b o e=>AB _ e,UY _ lo (hi - lo).toNat,?_,fun b hb=>?_,q⟩
 ·have e1:lo+((0:Nat):Int)*1=lo:=by simp
  have e2:(((hi - lo).toNat:Nat):Int) - ((0:Nat):Int)=Builtin.Range.rangeSize lo hi 1:=by rw [rangeSize_one];split<;>omega
  show IsRangeIter _ _ (lo+((0:Nat):Int)*1) ((((hi - lo).toNat:Nat):Int) - ((0:Nat):Int)) 1
  rw [e1,e2]
  exact A7 _ rfl
 ·have e:b=(s.heap.push {cls:=.type "range",data:=.fields #[.int lo t,.int hi u,.int 1 v]}).objs.size:=by simpa using hb
  subst e
  exact I1.fpOk (AF _) (I1.hok.fresh (AF _))
def UZ (ta:TA):TI:=fun σ H R=>ta σ H fun vs H1=>∃j:Int,vs=[.int j]∧-(2^62)≤j∧j<2^62∧R (Jd 0 j.toNat) H1
def U0 (ta:TA):TI:=fun σ H R=>ta σ H fun vs H1=>∃i j:Int,vs=[.int i,.int j]∧(-(2^62)≤i∧i<2^62∧-(2^62)≤j∧j<2^62)∧R (Jd i (j - i).toNat) H1
theorem U1 {a:Expr} {ta:TA} {p pos:Pos} (hg:Gl X "range") (hm:X.mg "range"=none) (ha:PA X [a] ta) (hs:starEach [a] X.env=[(false,eval a X.env)]:=by rfl):PI X tg (.Call (.Name "range" p) [a] [] pos) (UZ ta):=by
 intro pins s σ H R I h
 refine Call_ (Gx I hg hm boot_range (PyProof.Rows.callWith_type1 (Ax (ha pos pins s σ H _ I h) fun us s1 z37_=>?_) hs rfl))
 obtain ⟨vs,H1,I1,r1,q1⟩:=z37_
 obtain ⟨j,e,q1,q2,q⟩:=q1
 subst e
 cases r1 with
 |cons r rr=>
  cases rr
  obtain ⟨t,rfl⟩:=r
  exact call_range_1 (Pn I1 (by omega) (by omega) q1 q2 (by simpa using q))
theorem U2 {a b:Expr} {ta:TA} {p pos:Pos} (hg:Gl X "range") (hm:X.mg "range"=none) (ha:PA X [a,b] ta) (hs:starEach [a,b] X.env=[(false,eval a X.env),(false,eval b X.env)]:=by rfl) (hs2:starEach [b] X.env=[(false,eval b X.env)]:=by rfl):
 PI X tg (.Call (.Name "range" p) [a,b] [] pos) (U0 ta):=by
 intro pins s σ H R I h
 refine Call_ (Gx I hg hm boot_range (PyProof.Rows.callWith_type1 (Ax (ha pos pins s σ H _ I h) fun us s1 ⟨vs,H1,I1,r1,q1⟩=>?_) (by rw [hs,hs2]) (by rw [hs2];rfl)))
 obtain ⟨i,j,e,⟨q1,q2,q3,q4⟩,q⟩:=q1
 subst e
 cases r1 with
 |cons r rr=>
  cases rr with
  |cons r' rr=>
   cases rr
   obtain ⟨t,rfl⟩:=r
   obtain ⟨t',rfl⟩:=r'
   exact call_range_2 (Pn I1 q1 q2 q3 q4 q)
def U3 (wi:TI) (g:TG) (tb:TS):TS:=fun D σ H=>wi σ H fun J H1=>∃W:Nat→Nat→St→Hp→Prop,(∃m,W 0 m σ H1)∧∀i m σ H,W i m σ H→
 (J.stop i H∧D.nx σ H)∨(J.go i H∧∃N:St→Hp→Prop,(∀σ' H',N σ' H'→∃m',m' < m∧W (i+1) m' σ' H')∧∀x H',J.yld i H x H'→g x σ H' fun σ2 H2=>tb {D with nx:=N,ct:=N,bk:=D.nx} σ2 H2)
def Je (fp:List Addr) (h:Heap):List (Addr×Obj):=fp.filterMap fun b=>(h.get? b).map fun o=>(b,o)
theorem Kz {fp:List Addr} {h:Heap} {b:Addr} {o:Obj} (hb:b∈fp) (e:h.get? b=some o):(b,o)∈Je fp h:=List.mem_filterMap.mpr ⟨b,hb,by rw [e];rfl⟩
theorem U4 {fp:List Addr} {h:Heap} {p:Addr×Obj} (hp:p∈Je fp h):p.1∈fp∧h.get? p.1=some p.2:=by
 obtain ⟨b,hb,e⟩:=List.mem_filterMap.mp hp
 cases q:h.get? b with
 |none=>rw [q] at e;cases e
 |some o=>
  rw [q] at e
  have e':(b,o)=p:=Option.some.inj e
  subst e'
  exact ⟨hb,q⟩
theorem Inv.pinned {pins:List (Addr×Obj)} {σ:St} {H:Hp} {s:Shared} {fp:List Addr} (I:Inv X pins σ H s) (hf:∀b∈fp,EO X pins H b) (ho:∀b∈fp,∃o,s.heap.get? b=some o∧∀v,o.data≠.cell v):Inv X (pins++Je fp s.heap) σ H s:=
 I.pins_of fun p hp=>(qaW.mp hp).elim (fun z=>I.pin p (Dk _ z)) fun z=>by
  obtain ⟨hb,e⟩:=U4 z
  obtain ⟨f0,f1,f2,_⟩:=hf p.1 hb
  obtain ⟨o,e',d⟩:=ho p.1 hb
  rw [e] at e';cases e'
  exact ⟨e,f0,f1,f2,d⟩
theorem Inv.unpinned {pins pl:List (Addr×Obj)} {σ:St} {H:Hp} {s:Shared} (I:Inv X (pins++pl) σ H s):Inv X pins σ H s:=I.pins_of fun p hp=>I.pin p (Dk _ (HC _ hp))
inductive MY (X:Cx) (pins:List (Addr×Obj)) (tn:Nat→Heap→Prop) (fp:List Addr) (W:Nat→Nat→St→Hp→Prop) (n:Nat) (s':Shared):Prop where
 |mk (i:Nat) (σ':St) (H':Hp) (ii:Inv X pins σ' H' s') (st:tn i s'.heap) (fr:∀b∈fp,H' b=none) (w:W i n σ' H'):MY X pins tn fp W n s'
theorem U5 {iter:Expr} {body:List Stmt} {wi:TI} {g:TG} {tb:TS} {pos:Pos} (hp:PassesOwn (model X.prog X.w) X.A X.env X.xe) (hc:X.calm=true) (hi:PI X tg iter wi) (hg:PG X tg g) (hb:DW X body tb)
 (hs:∀x,foldedSetIterable iter X.env x=pure x:=by intro _;rfl):PS X (.For tg iter body [] pos) (U3 wi g tb):=by
 intro pins s σ H D I h
 refine wpAny_For (Ax (hi pins s σ H _ I h) fun v s1 h1=>Ax h1 fun itv s2 h2=>?_) hs
 obtain ⟨it,fp,tn,J,H2,e,I2,T,st2,f2,W,⟨m0,w0⟩,turn⟩:=h2
 subst e
 have stat:∀{H':Hp},(∀b∈fp,H' b=none)→∀b∈fp,EO X pins H' b:=fun hn b hb=>⟨hn b hb,(f2 b hb).2⟩
 refine codeAny_forLoop_any (MY X pins tn fp W) ?_ m0 ⟨0,σ,H2,I2,st2,fun b hb=>(f2 b hb).1,w0⟩
 rintro n s3 ⟨i,σ3,H3,I3,st3,fr3,w3⟩
 rcases turn i n σ3 H3 w3 with ⟨stop,qn⟩ |⟨go,N,hN,step⟩
 ·refine wpAny_passesOwn hp (Ax (T.done X rfl rfl rfl hc i pins s3 σ3 H3 X.xe I3 (stat fr3) st3 stop) fun r s4 z39_=>?_)
  obtain ⟨hr,I4⟩:=z39_
  subst hr
  exact wpAny_execs_nil ⟨σ3,H3,I4,qn⟩
 ·refine wpAny_passesOwn hp (Ax (T.item X rfl rfl rfl hc i pins s3 σ3 H3 X.xe I3 (stat fr3) st3 go) fun r s4 z40_=>?_)
  obtain ⟨u,hr,h4⟩:=z40_
  subst hr
  refine wpAny_passesOwn hp (Ax h4 fun _ s5 z41_=>?_)
  obtain ⟨x,H5,I5,r5,y5,st5,fr5⟩:=z41_
  have I5':=I5.pinned (stat fr5) (T.obj _ _ st5)
  refine wpAny_passesOwn hp (Ax (hg _ s5 σ3 H5 x u _ I5' r5 (step x H5 y5)) fun _ s6 z42_=>?_)
  obtain ⟨σ6,H6,I6,q6⟩:=z42_
  refine wpAny_passesOwn hp (Ax (hb _ s6 σ6 H6 _ I6 q6) fun f s7 q7=>?_)
  have again:∀{σ7:St} {H7:Hp},Inv X (pins++Je fp s5.heap) σ7 H7 s7→N σ7 H7→∃m,m<n∧MY X pins tn fp W m s7:=fun {σ7 H7} I7 n7=>by
   obtain ⟨m',hm,w7⟩:=hN σ7 H7 n7
   refine ⟨m',hm,i+1,σ7,H7,I7.unpinned,T.keep _ _ _ st5 fun b hb o e=>(I7.pin (b,o) (Dk _ (Dk _ (Kz hb e)))).1,fun b hb=>?_,w7⟩
   obtain ⟨o,e,d⟩:=T.obj _ _ st5 b hb
   exact (I7.pin (b,o) (Dk _ (Dk _ (Kz hb e)))).2.1
  cases f with
  |next=>obtain ⟨σ7,H7,I7,n7⟩:=q7;exact again I7 n7
  |cont=>obtain ⟨σ7,H7,I7,n7⟩:=q7;exact again I7 n7
  |brk=>obtain ⟨σ7,H7,I7,q7⟩:=q7;exact ⟨σ7,H7,I7.unpinned,q7⟩
  |ret v=>obtain ⟨x7,σ7,H7,I7,r7,q7⟩:=q7;exact ⟨x7,σ7,H7,I7.unpinned,r7,q7⟩
end
abbrev R2:=V→V→Hp→VK→Prop
def OpR (X:Cx) (f:Value→Value→Sem Value) (r:R2):Prop:=
 ∀(pins:List (Addr×Obj)) (s:Shared) (σ:St) (H:Hp) (x y:V) (v u:Value) (Q:VK),Inv X pins σ H s→RelV x v→RelV y u→r x y H Q→
  wpAny (model X.prog X.w) X.A (f v u) (EP X pins σ Q) X.xe s
def MZ (X:Cx) (f:Value→Sem Value) (r:V→Hp→VK→Prop):Prop:=
 ∀(pins:List (Addr×Obj)) (s:Shared) (σ:St) (H:Hp) (x:V) (v:Value) (Q:VK),Inv X pins σ H s→RelV x v→r x H Q→
  wpAny (model X.prog X.w) X.A (f v) (EP X pins σ Q) X.xe s
def CQ (X:Cx) (f:Value) (r:List V→Hp→VK→Prop):Prop:=
 ∀(pins:List (Addr×Obj)) (s:Shared) (σ:St) (H:Hp) (xs:List V) (us:List Value) (Q:VK),Inv X pins σ H s→Vals xs us→r xs H Q→
  wpAny (model X.prog X.w) X.A (call f us) (EP X pins σ Q) X.xe s
def U6 (X:Cx) (r:V→Hp→(Bool→Hp→Prop)→Prop):Prop:=
 ∀(pins:List (Addr×Obj)) (s:Shared) (σ:St) (H:Hp) (x:V) (v:Value) (Q:Bool→Hp→Prop),Inv X pins σ H s→RelV x v→r x H Q→
  wpAny (model X.prog X.w) X.A (truthy v) (TP X pins σ Q) X.xe s
def KA (r:R2) (ta tb:TE):TE:=fun σ H Q=>ta σ H fun x H1=>tb σ H1 fun y H2=>r x y H2 Q
def U7 (r:V→Hp→VK→Prop) (ta:TE):TE:=fun σ H Q=>ta σ H fun x H1=>r x H1 Q
def rI (C:Int→Int→Prop) (g:Int→Int→V):R2:=fun x y H Q=>∃i j,x=.int i∧y=.int j∧C i j∧Q (g i j) H
def Fu (g:Int→Int→V):R2:=fun x y H Q=>∃i j,x=.int i∧y=.int j∧Q (g i j) H
def rU (g:Int→V):V→Hp→VK→Prop:=fun x H Q=>∃i,x=.int i∧Q (g i) H
section
variable {X:Cx} {a b c:Expr} {ta tb tc:TE} {pos:Pos}
theorem M0 (ha:PE X a ta) (hb:PE X b tb) {pins:List (Addr×Obj)} {s:Shared} {σ:St} {H:Hp} {R:V→V→Hp→Prop} (I:Inv X pins σ H s)
 (h:ta σ H fun x H1=>tb σ H1 fun y H2=>R x y H2) {Q:Value→Shared→Prop} {f:Value→Value→Sem Value}
 (hf:∀v u s2 x y H2,Inv X pins σ H2 s2→RelV x v→RelV y u→R x y H2→wpAny (model X.prog X.w) X.A (f v u) Q X.xe s2):
 wpAny (model X.prog X.w) X.A (eval a X.env) (fun v s₁=>wpAny (model X.prog X.w) X.A (eval b X.env) (fun u s₂=>wpAny (model X.prog X.w) X.A (f v u) Q X.xe s₂) X.xe s₁) X.xe s:=by
 refine Ax (ha pins s σ H _ I h) fun v s1 z44_=>?_
 obtain ⟨x,H1,I1,r1,q1⟩:=z44_
 refine Ax (hb pins s1 σ H1 _ I1 q1) fun u s2 z45_=>?_
 obtain ⟨y,H2,I2,r2,q2⟩:=z45_
 exact hf v u s2 x y H2 I2 r1 r2 q2
theorem U8 {op:Operator} {r:R2} (ho:OpR X (binaryOp op) r) (ha:PE X a ta) (hb:PE X b tb):PE X (.BinOp a op b pos) (KA r ta tb):=by
 intro pins s σ H Q I h
 exact wpAny_BinOp (M0 ha hb I h fun v u s2 x y H2 I2 rx ry q=>ho pins s2 σ H2 x y v u Q I2 rx ry q)
theorem U9 {op:UnaryOp} {r:V→Hp→VK→Prop} (ho:MZ X (unaryOp op) r) (ha:PE X a ta):PE X (.UnaryOp op a pos) (U7 r ta):=by
 intro pins s σ H Q I h
 exact UnaryOp_ (Ax (ha pins s σ H _ I h) fun v s1 z46_=>by obtain ⟨x,H1,I1,r1,q1⟩:=z46_;exact (ho pins s1 σ H1 x v Q I1 r1 q1))
theorem Jf {f:Value→Value→Sem Value} {C:Int→Int→Prop} {g:Int→Int→Int}
 (rule:∀(i j:Int) (t u:Tok) (s:Shared) (Q:Value→Shared→Prop) (E:Value→Shared→Prop),C i j→Q (.int (g i j) s.toks) {s with toks:=s.toks+1}→wpAny (model X.prog X.w) X.A (f (.int i t) (.int j u)) Q E s):
 OpR X f (rI C fun i j=>.int (g i j)):=by
 intro pins s σ H x y v u Q I rx ry h
 obtain ⟨i,j,rfl,rfl,hc,q⟩:=h
 obtain ⟨t,rfl⟩:=rx
 obtain ⟨t',rfl⟩:=ry
 exact rule i j t t' s _ _ hc ⟨.int (g i j),H,I.tok _,⟨_,rfl⟩,q⟩
theorem M1 {f:Value→Value→Sem Value} {g:Int→Int→Int}
 (rule:∀(i j:Int) (t u:Tok) (s:Shared) (Q:Value→Shared→Prop) (E:Value→Shared→Prop),Q (.int (g i j) s.toks) {s with toks:=s.toks+1}→wpAny (model X.prog X.w) X.A (f (.int i t) (.int j u)) Q E s):
 OpR X f (Fu fun i j=>.int (g i j)):=by
 intro pins s σ H x y v u Q I rx ry h
 obtain ⟨i,j,rfl,rfl,q⟩:=h
 obtain ⟨t,rfl⟩:=rx
 obtain ⟨t',rfl⟩:=ry
 exact rule i j t t' s _ _ ⟨.int (g i j),H,I.tok _,⟨_,rfl⟩,q⟩
theorem M3 {f:Value→Value→Sem Value} {g:Int→Int→Bool}
 (rule:∀(i j:Int) (t u:Tok) (s:Shared) (Q:Value→Shared→Prop) (E:Value→Shared→Prop),Q (.bool (g i j)) s→wpAny (model X.prog X.w) X.A (f (.int i t) (.int j u)) Q E s):
 OpR X f (Fu fun i j=>.bl (g i j)):=by
 intro pins s σ H x y v u Q I rx ry h
 obtain ⟨i,j,rfl,rfl,q⟩:=h
 obtain ⟨t,rfl⟩:=rx
 obtain ⟨t',rfl⟩:=ry
 exact rule i j t t' s _ _ ⟨.bl (g i j),H,I,rfl,q⟩
def Po (i j:Int):Prop:=0<j∧j<1073741824
def GB (i j:Int):Prop:=0≤j∧j≤1000000∧i.natAbs<2^64
def CMul (i j:Int):Prop:=(-(2^64)<i∧i<2^64)∨(-(2^64)<j∧j<2^64)
theorem CMul.ok {i j:Int} (h:CMul i j):IntMulOk i j:=by
 rcases h with ⟨h1,h2⟩ |⟨h1,h2⟩
 ·exact .of_left (intBits_le_64 h1 h2)
 ·exact .of_right (intBits_le_64 h1 h2)
theorem op_add:OpR X (binaryOp .Add) (Fu fun i j=>.int (i+j)):=M1 fun _ _ _ _ _ _ _ q=>add_int q
theorem Va:OpR X (binaryOp .Sub) (Fu fun i j=>.int (i - j)):=M1 fun _ _ _ _ _ _ _ q=>sub_int q
theorem Vb:OpR X (binaryOp .Mod) (rI (fun _ j=>0<j) fun i j=>.int (i % j)):=Jf fun i j _ _ _ _ _ hc q=>by
 have h1:(0:Int)<j:=hc
 exact mod_int' (by omega) (by rw [Int.fmod_eq_emod_of_nonneg i (by omega)];exact q)
theorem Vc:OpR X (binaryOp .Pow) (rI GB fun i j=>.int (i^j.toNat)):=Jf fun _ _ _ _ _ _ _ hc q=>pow_int_small hc.1 hc.2.1 hc.2.2 q
theorem Vd:OpR X (binaryOp .LShift) (rI GB fun i j=>.int (i*2^j.toNat)):=Jf fun _ _ _ _ _ _ _ hc q=>lshift_int_small hc.1 hc.2.1 hc.2.2 q
theorem Ve:OpR X (binaryOp .BitXor) (Fu fun i j=>.int (Builtin.bitXor i j)):=M1 fun _ _ _ _ _ _ _ q=>xor_int q
theorem Vf {f:Value→Sem Value} {g:Int→Int}
 (rule:∀(i:Int) (t:Tok) (s:Shared) (Q:Value→Shared→Prop) (E:Value→Shared→Prop),Q (.int (g i) s.toks) {s with toks:=s.toks+1}→wpAny (model X.prog X.w) X.A (f (.int i t)) Q E s):
 MZ X f (rU fun i=>.int (g i)):=by
 intro pins s σ H x v Q I rx h
 obtain ⟨i,rfl,q⟩:=h
 obtain ⟨t,rfl⟩:=rx
 exact rule i t s _ _ ⟨.int (g i),H,I.tok _,⟨_,rfl⟩,q⟩
theorem Vg:MZ X (unaryOp .USub) (rU fun i=>.int (-i)):=Vf fun _ _ _ _ _ q=>neg_int q
end
def Pp:V→V→Bool
 |.non,.non=>true |.non,.int _=>true |.int _,.non=>true |.non,.bl _=>true |.bl _,.non=>true |.non,.str _=>true |.str _,.non=>true
 |.int _,.int _=>true |.bl _,.bl _=>true |.str _,.str _=>true |.byt _,.byt _=>true
 |.int _,.str _=>true |.str _,.int _=>true |.bl _,.str _=>true |.str _,.bl _=>true
 |_,_=>false
def Vh:R2:=fun x y H Q=>Pp x y=true∧Q (.bl (decide (x=y))) H
def Vi:R2:=fun x y H Q=>Pp x y=true∧Q (.bl (!decide (x=y))) H
theorem Pq {i j:Int}:decide (V.int i=V.int j)=(i==j):=by
 rw [qbD]
 simp
theorem Pr {i j:Bool}:decide (V.bl i=V.bl j)=(i==j):=by
 rw [qbD]
 simp
theorem KB {i j:Str}:decide (V.str i=V.str j)=(i==j):=by
 rw [qbD]
 simp
theorem Pt {i j:Array UInt8}:decide (V.byt i=V.byt j)=(i.toList==j.toList):=by
 rw [qbD]
 cases i
 cases j
 simp
section
variable {X:Cx} {a b c:Expr} {ta tb tc:TE} {pos:Pos}
theorem Bv {pins:List (Addr×Obj)} {σ:St} {H:Hp} {s:Shared} {Q:VK} {k k':Bool} (I:Inv X pins σ H s) (q:Q (.bl k) H) (e:k=k'):EP X pins σ Q (.bool k') s:=by
 subst e
 exact ⟨.bl k,H,I,rfl,q⟩
theorem op_eq:OpR X (compareOp .Eq) Vh:=by
 intro pins s σ H x y v u Q I rx ry h
 obtain ⟨hs,q⟩:=h
 cases x with
 |non=>
  cases rx
  cases y with
  |non=>cases ry;exact PySem.EqNone.eq_none_none (Bv I q (by simp))
  |bl j=>cases ry;exact PySem.EqNone.eq_none_bool (Bv I q (by simp))
  |int j=>obtain ⟨t',rfl⟩:=ry;exact PySem.EqNone.eq_none_int (Bv I q (by simp))
  |str j=>obtain ⟨t',rfl⟩:=ry;exact PySem.EqNone.eq_none_str (Bv I q (by simp))
  |_=>exact absurd (show false=true from hs) BL
 |bl i=>
  cases rx
  cases y with
  |non=>cases ry;exact PySem.EqNone.eq_bool_none (Bv I q (by simp))
  |bl j=>cases ry;exact eq_bool (Bv I q Pr)
  |str j=>obtain ⟨t',rfl⟩:=ry;exact PySem.EqMixed.eq_bool_str (Bv I q (by simp))
  |_=>exact absurd (show false=true from hs) BL
 |int i=>
  obtain ⟨t,rfl⟩:=rx
  cases y with
  |non=>cases ry;exact PySem.EqNone.eq_int_none (Bv I q (by simp))
  |int j=>obtain ⟨t',rfl⟩:=ry;exact eq_int (Bv I q Pq)
  |str j=>obtain ⟨t',rfl⟩:=ry;exact PySem.EqMixed.eq_int_str (Bv I q (by simp))
  |_=>exact absurd (show false=true from hs) BL
 |str i=>
  obtain ⟨t,rfl⟩:=rx
  cases y with
  |non=>cases ry;exact PySem.EqNone.eq_str_none (Bv I q (by simp))
  |bl j=>cases ry;exact PySem.EqMixed.eq_str_bool (Bv I q (by simp))
  |int j=>obtain ⟨t',rfl⟩:=ry;exact PySem.EqMixed.eq_str_int (Bv I q (by simp))
  |str j=>obtain ⟨t',rfl⟩:=ry;exact eq_str (Bv I q KB)
  |_=>exact absurd (show false=true from hs) BL
 |byt i=>
  obtain ⟨t,rfl⟩:=rx
  cases y with
  |byt j=>obtain ⟨t',rfl⟩:=ry;exact PySem.W.eq_bytes (Bv I q Pt)
  |_=>exact absurd (show false=true from hs) BL
 |_=>cases y<;>exact absurd (show false=true from hs) BL
theorem op_ne:OpR X (compareOp .NotEq) Vi:=by
 intro pins s σ H x y v u Q I rx ry h
 obtain ⟨hs,q⟩:=h
 cases x with
 |non=>
  cases rx
  cases y with
  |non=>cases ry;exact PySem.EqNone.ne_none_none (Bv I q (by simp))
  |bl j=>cases ry;exact PySem.EqNone.ne_none_bool (Bv I q (by simp))
  |int j=>obtain ⟨t',rfl⟩:=ry;exact PySem.EqNone.ne_none_int (Bv I q (by simp))
  |str j=>obtain ⟨t',rfl⟩:=ry;exact PySem.EqNone.ne_none_str (Bv I q (by simp))
  |_=>exact absurd (show false=true from hs) BL
 |bl i=>
  cases rx
  cases y with
  |non=>cases ry;exact PySem.EqNone.ne_bool_none (Bv I q (by simp))
  |bl j=>cases ry;exact ne_bool (Bv I q (congrArg not Pr))
  |str j=>obtain ⟨t',rfl⟩:=ry;exact PySem.EqMixed.ne_bool_str (Bv I q (by simp))
  |_=>exact absurd (show false=true from hs) BL
 |int i=>
  obtain ⟨t,rfl⟩:=rx
  cases y with
  |non=>cases ry;exact PySem.EqNone.ne_int_none (Bv I q (by simp))
  |int j=>obtain ⟨t',rfl⟩:=ry;exact ne_int (Bv I q (congrArg not Pq))
  |str j=>obtain ⟨t',rfl⟩:=ry;exact PySem.EqMixed.ne_int_str (Bv I q (by simp))
  |_=>exact absurd (show false=true from hs) BL
 |str i=>
  obtain ⟨t,rfl⟩:=rx
  cases y with
  |non=>cases ry;exact PySem.EqNone.ne_str_none (Bv I q (by simp))
  |bl j=>cases ry;exact PySem.EqMixed.ne_str_bool (Bv I q (by simp))
  |int j=>obtain ⟨t',rfl⟩:=ry;exact PySem.EqMixed.ne_str_int (Bv I q (by simp))
  |str j=>obtain ⟨t',rfl⟩:=ry;exact ne_str (Bv I q (congrArg not KB))
  |_=>exact absurd (show false=true from hs) BL
 |byt i=>
  obtain ⟨t,rfl⟩:=rx
  cases y with
  |byt j=>obtain ⟨t',rfl⟩:=ry;exact PySem.W.ne_bytes (Bv I q (congrArg not Pt))
  |_=>exact absurd (show false=true from hs) BL
 |_=>cases y<;>exact absurd (show false=true from hs) BL
theorem Vj:OpR X (compareOp .Lt) (Fu fun i j=>.bl (decide (i<j))):=M3 fun _ _ _ _ _ _ _ q=>lt_int q
theorem Vk:OpR X (compareOp .LtE) (Fu fun i j=>.bl (decide (i≤j))):=M3 fun _ _ _ _ _ _ _ q=>le_int q
theorem Vl:OpR X (compareOp .Gt) (Fu fun i j=>.bl (decide (j<i))):=M3 fun _ _ _ _ _ _ _ q=>gt_int q
theorem Vm:OpR X (compareOp .IsNot) (fun x y H Q=>y=.non∧Q (.bl (!decide (x=.non))) H):=by
 intro pins s σ H x y v u Q I rx ry h
 obtain ⟨rfl,q⟩:=h
 cases ry
 refine isnot_none_gen (Bv I q ?_)
 cases x<;>first
  |(cases rx;rfl)
  |(obtain ⟨t,rfl⟩:=rx;rfl)
theorem OpR.or {f:Value→Value→Sem Value} {r r':R2} (h:OpR X f r) (h':OpR X f r'):OpR X f (fun x y H Q=>r x y H Q∨r' x y H Q):=by
 intro pins s σ H x y v u Q I rx ry q
 rcases q with q |q
 ·exact h pins s σ H x y v u Q I rx ry q
 ·exact h' pins s σ H x y v u Q I rx ry q
theorem BF (b:Expr) {op:CmpOp} (h:op≠.In:=by decide) (h2:op≠.NotIn:=by decide):behindInMarks op b=false:=by
 have e1:(op==CmpOp.In)=false:=by cases op<;>first |rfl |exact absurd rfl h
 have e2:(op==CmpOp.NotIn)=false:=by cases op<;>first |rfl |exact absurd rfl h2
 cases b with
 |Set elts k p=>
  show (k==0&&(op==.In||op==.NotIn)&&elts.all (constantsAlone 8))=false
  rw [e1,e2,Bool.or_self,Bool.and_false,Ks]
 |_=>rfl
theorem Vn {op:CmpOp} {r:R2} (ho:OpR X (compareOp op) r) (ha:PE X a ta) (hb:PE X b tb) (hm:behindInMarks op b=false):PE X (.Compare a [op] [b] pos) (KA r ta tb):=by
 intro pins s σ H Q I h
 exact wpAny_Compare1 (M0 ha hb I h fun v u s2 x y H2 I2 rx ry q=>ho pins s2 σ H2 x y v u Q I2 rx ry q) hm
def Pv (t:TE):TT:=fun σ H Q=>t σ H fun x H'=>∃k,x=.bl k∧Q k H'
theorem Vo {op:CmpOp} {r:R2} (ho:OpR X (compareOp op) r) (ha:PE X a ta) (hb:PE X b tb) (hm:behindInMarks op b=false):PT X (.Compare a [op] [b] pos) (Pv (KA r ta tb)):=by
 intro pins s σ H Q I h
 refine wpAny_isTrue_Compare1 (Ax (ha pins s σ H _ I h) fun v s1 ⟨x,H1,I1,r1,q1⟩=>Ax (hb pins s1 σ H1 _ I1 q1) ?_) hm
 rintro u s2 ⟨y,H2,I2,r2,q2⟩
 refine Ax (ho pins s2 σ H2 x y v u _ I2 r1 r2 q2) fun c s3 z49_=>?_
 obtain ⟨z,H3,I3,r3,k,e,q3⟩:=z49_
 subst e
 cases r3
 exact wpAny_truthy_bool ⟨H3,I3,q3⟩
def M4 (r r':R2) (ta tb tc:TE):TE:=fun σ H Q=>ta σ H fun x H1=>tb σ H1 fun y H2=>r x y H2 fun z H3=>∃k,z=.bl k∧
 (if k=true then tc σ H3 fun w' H4=>r' y w' H4 Q else Q (.bl false) H3)
theorem Vp {op op':CmpOp} {r r':R2} (ho:OpR X (compareOp op) r) (ho':OpR X (compareOp op') r') (ha:PE X a ta) (hb:PE X b tb) (hc:PE X c tc)
 (hm:lastMarks [op,op'] [b,c]=false:=by with_unfolding_all rfl):PE X (.Compare a [op,op'] [b,c] pos) (M4 r r' ta tb tc):=by
 intro pins s σ H Q I h
 refine Compare_chain (Ax (ha pins s σ H _ I h) fun v s1 ⟨x,H1,I1,r1,q1⟩=>chain_link (Ax (hb pins s1 σ H1 _ I1 q1) ?_)) hm
 rintro u s2 ⟨y,H2,I2,r2,q2⟩
 refine Ax (ho pins s2 σ H2 x y v u _ I2 r1 r2 q2) fun d s3 z52_=>?_
 obtain ⟨z,H3,I3,r3,k,e,q3⟩:=z52_
 subst e
 cases r3
 refine wpAny_truthy_bool ?_
 cases k with
 |false=>exact ite_ff ⟨.bl false,H3,I3,rfl,q3⟩
 |true=>exact ite_tt (chain_last (Ax (hc pins s3 σ H3 _ I3 q3) fun w' s4 z53_=>by obtain ⟨z',H4,I4,r4,q4⟩:=z53_;exact (ho' pins s4 σ H4 y z' u w' Q I4 r2 r4 q4)))
theorem Vq {op op':CmpOp} {r r':R2} (ho:OpR X (compareOp op) r) (ho':OpR X (compareOp op') r') (ha:PE X a ta) (hb:PE X b tb) (hc:PE X c tc)
 (hm:lastMarks [op,op'] [b,c]=false:=by with_unfolding_all rfl):PT X (.Compare a [op,op'] [b,c] pos) (Pv (M4 r r' ta tb tc)):=by
 intro pins s σ H Q I h
 refine isTrue_chain (Ax (ha pins s σ H _ I h) fun v s1 ⟨x,H1,I1,r1,q1⟩=>test_link (Ax (hb pins s1 σ H1 _ I1 q1) ?_)) hm
 rintro u s2 ⟨y,H2,I2,r2,q2⟩
 refine Ax (ho pins s2 σ H2 x y v u _ I2 r1 r2 q2) fun d s3 z56_=>?_
 obtain ⟨z,H3,I3,r3,k,e,q3⟩:=z56_
 subst e
 cases r3
 refine wpAny_truthy_bool ?_
 cases k with
 |false=>
  obtain ⟨k',e',q'⟩:=q3
  cases e'
  exact ite_ff ⟨H3,I3,q'⟩
 |true=>
  refine ite_tt (test_last (Ax (hc pins s3 σ H3 _ I3 q3) ?_))
  rintro w' s4 ⟨z',H4,I4,r4,q4⟩
  refine Ax (ho' pins s4 σ H4 y z' u w' _ I4 r2 r4 q4) fun d' s5 z58_=>?_
  obtain ⟨z2,H5,I5,r5,k2,e2,q5⟩:=z58_
  subst e2
  cases r5
  exact wpAny_truthy_bool ⟨H5,I5,q5⟩
def M5 (K:PySem.W.Frag) (x:V) (H:Hp) (k:Bool):Prop:=
 match x with
 |.non=>k=false
 |.bl b=>k=b
 |.int i=>k=(i != 0)
 |.str y=>y.length≤sizeLine∧k=((y.length:Int) != 0)
 |.byt y=>y.size≤sizeLine∧k=((y.size:Int) != 0)
 |.ref p=>(∃xs,SqL K H p xs∧k=!xs.isEmpty)∨(∃xs,SqT K H p xs∧k=!xs.isEmpty)
 |_=>False
theorem Pw {xs:List V} {its:List Value} (r:Vals xs its):(!its.toArray.isEmpty)=!xs.isEmpty:=by
 cases r<;>simp
theorem HM:(sizeLine:Nat)<2^63:=by rw [sizeLine_eq];decide
theorem Vr:U6 X (fun x H Q=>∃k,M5 X.K x H k∧Q k H):=by
 intro pins s σ H x v Q I rx h
 obtain ⟨k,e,q⟩:=h
 have hl:=HM
 have hs:sizeLine=16777216:=sizeLine_eq
 cases x with
 |non=>
  cases rx
  have e':k=false:=e
  subst e'
  exact truthy_none ⟨H,I,q⟩
 |bl b=>
  cases rx
  have e':k=b:=e
  subst e'
  exact wpAny_truthy_bool ⟨H,I,q⟩
 |int i=>
  obtain ⟨t,rfl⟩:=rx
  have e':k=(i != 0):=e
  subst e'
  exact PySem.P.truthy_int ⟨H,I,q⟩
 |str y=>
  obtain ⟨t,rfl⟩:=rx
  obtain ⟨hy,e'⟩:y.length≤sizeLine∧k=((y.length:Int) != 0):=e
  subst e'
  exact PySem.P.truthy_str (by omega) ⟨H,I.tok _,q⟩
 |byt y=>
  obtain ⟨t,rfl⟩:=rx
  obtain ⟨hy,e'⟩:y.size≤sizeLine∧k=((y.size:Int) != 0):=e
  subst e'
  exact PySem.W.truthy_bytes (by omega) ⟨H,I.tok _,q⟩
 |ref p=>
  cases rx
  have e':(∃xs,SqL X.K H p xs∧k=!xs.isEmpty)∨(∃xs,SqT X.K H p xs∧k=!xs.isEmpty):=e
  rcases e' with ⟨xs,hx,e'⟩ |⟨xs,hx,e'⟩
  ·subst e'
   obtain ⟨its,r,pl,hz⟩:=I.list hx
   have hlen:=r.length
   exact wpAny_truthy_list pl.isList (by simp only [A9];omega) ⟨H,I.tok _,by rw [Pw r];exact q⟩
  ·subst e'
   obtain ⟨its,r,pl,hz⟩:=I.tuple hx
   have hlen:=r.length
   exact truthy_tuple pl (by simp only [A9];omega) ⟨H,I.tok _,by rw [Pw r];exact q⟩
 |_=>exact (show False from e).elim
theorem Vs (ha:PE X a ta) (he:∀Fc,isTrue a X.env Fc=(do let v ←Fc;standAt a.pos;holding [v] (truthy v))):
 PT X a (fun σ H Q=>ta σ H fun x H'=>∃k,M5 X.K x H' k∧Q k H'):=by
 intro pins s σ H Q I h
 exact isTrue_plain (Ax (ha pins s σ H _ I h) fun v s1 z59_=>by obtain ⟨x,H1,I1,r1,q1⟩:=z59_;exact (Vr pins s1 σ H1 x v Q I1 r1 q1)) (he _)
theorem Vt:OpR X (binaryOp .Add) (fun x y H Q=>∃i j,x=.str i∧y=.str j∧i.length+j.length≤sizeLine∧Q (.str (i++j)) H):=by
 intro pins s σ H x y v u Q I rx ry h
 obtain ⟨i,j,rfl,rfl,hz,q⟩:=h
 obtain ⟨t,rfl⟩:=rx
 obtain ⟨t',rfl⟩:=ry
 exact add_str (fun t' tk=>⟨.str (i++j),H,I.tok _,⟨_,rfl⟩,q⟩) hz
theorem DY {x:V} {us:List Value} (r:Vals [x] us):∃u,us=[u]∧RelV x u:=by
 cases r with
 |cons r1 r2=>cases r2;exact ⟨_,rfl,r1⟩
theorem KC {x y:V} {us:List Value} (r:Vals [x,y] us):∃u w',us=[u,w']∧RelV x u∧RelV y w':=by
 cases r with
 |cons r1 r2=>
  cases r2 with
  |cons r3 r4=>cases r4;exact ⟨_,_,rfl,r1,r3⟩
theorem Vu (hc:X.calm=true):CQ X (.builtin "max") (fun xs H Q=>∃i j,xs=[.int i,.int j]∧Q (.int (if j>i then j else i)) H):=by
 intro pins s σ H xs us Q I r h
 obtain ⟨i,j,rfl,q⟩:=h
 obtain ⟨u,w',rfl,⟨t,rfl⟩,⟨t',rfl⟩⟩:=KC r
 refine max_two_ints (I.ok.hd hc) fun h' tk k=>⟨_,H,I.kept k,?_,q⟩
 by_cases hj:j>i
 ·rw [if_pos hj,if_pos hj];exact ⟨_,rfl⟩
 ·rw [if_neg hj,if_neg hj];exact ⟨_,rfl⟩
theorem Vv (hc:X.calm=true):CQ X (.builtin "min") (fun xs H Q=>∃i j,xs=[.int i,.int j]∧Q (.int (if j<i then j else i)) H):=by
 intro pins s σ H xs us Q I r h
 obtain ⟨i,j,rfl,q⟩:=h
 obtain ⟨u,w',rfl,⟨t,rfl⟩,⟨t',rfl⟩⟩:=KC r
 refine min_two_ints (I.ok.hd hc) fun h' tk k=>⟨_,H,I.kept k,?_,q⟩
 by_cases hj:j<i
 ·rw [if_pos hj,if_pos hj];exact ⟨_,rfl⟩
 ·rw [if_neg hj,if_neg hj];exact ⟨_,rfl⟩
theorem Vw:CQ X (.type "int") (fun xs H Q=>(∃i,xs=[.int i]∧Q (.int i) H)∨∃k,xs=[.bl k]∧Q (.int (if k then 1 else 0)) H):=by
 intro pins s σ H xs us Q I r h
 rcases h with ⟨i,rfl,q⟩ |⟨k,rfl,q⟩
 ·obtain ⟨u,rfl,t,rfl⟩:=DY r
  exact call_int_int ⟨.int i,H,I,⟨_,rfl⟩,q⟩
 ·obtain ⟨u,rfl,r1⟩:=DY r
  cases r1
  exact call_int_bool ⟨.int (if k then 1 else 0),H,I.tok _,⟨_,rfl⟩,q⟩
end
section
variable {prog:Program} {w:World} {A:Around} {E:Value→Shared→Prop} {s:Shared} {K:PySem.W.Frag} {x dx C f:Addr} {mA:Str→Option Value} {name:Str} {v:Value}
end
section
variable {P:Program} {w:World} {H H':Hp} {h h':Heap} {a C dx:Addr} {fs fs':List (Str×V)}
end
section
variable {X:Cx} {pins:List (Addr×Obj)} {σ:St} {H:Hp} {s:Shared} {a C dx:Addr} {fs:List (Str×V)} {f:Str} {v:V} {A:Around} {E:Value→Shared→Prop}
end
section
variable {X:Cx} {o e value:Expr} {f:Str} {pos pos' tpos:Pos} {ta tv:TE}
end
section
variable {X:Cx} {pins:List (Addr×Obj)} {σ:St} {H:Hp} {s:Shared} {A:Around} {E:Value→Shared→Prop} {Q:Value→Shared→Prop} {c:Value} {b:Bool}
inductive ES (K:PySem.W.Frag) (H:Hp):V→Value→Prop where
 |non:ES K H .non (.type "NoneType")
 |bl (x:Bool):ES K H (.bl x) (.type "bool")
 |int (i:Int):ES K H (.int i) (.type "int")
 |str (x:Str):ES K H (.str x) (.type "str")
 |flt (x:UInt64):ES K H (.flt x) (.type "float")
 |lst {a:Addr} {xs:List V} (e:H a=some (.lst xs)):ES K H (.ref a) (.type "list")
 |frz {a:Addr} {o:Obj} {xs:List V} (e:H a=some (.frz o (.lst xs))):ES K H (.ref a) (.type "list")
 |tup {a:Addr} {xs:List V} (e:H a=some (.tup xs)):ES K H (.ref a) (.type "tuple")
theorem Vx {x:V} {u t:Value} (I:Inv X pins σ H s) (rx:RelV x u) (ty:ES X.K H x t) (e:PySem.W.kitOne X.K t c=some b) (h:∀tk,Q (.bool b) {s with toks:=tk}):
 wpAny (model X.prog X.w) A (call (.builtin "isinstance") [u,c]) Q E s:=by
 cases ty with
 |non=>cases (show u=Value.none from rx);exact PySem.W.kia_one PySem.W.kitx_none I.kIn True.intro e (fun z=>nomatch z) h
 |bl y=>cases (show u=Value.bool y from rx);exact PySem.W.kia_one PySem.W.kitx_bool I.kIn True.intro e (fun z=>nomatch z) h
 |int i=>obtain ⟨t,q⟩:=(show ∃t,u=Value.int i t from rx);cases q;exact PySem.W.kia_one PySem.W.kitx_int I.kIn True.intro e (fun z=>nomatch z) h
 |str y=>obtain ⟨t,q⟩:=(show ∃t,u=Value.str y t from rx);cases q;exact PySem.W.kia_one PySem.W.kitx_str I.kIn True.intro e (fun z=>nomatch z) h
 |flt y=>obtain ⟨t,q⟩:=(show ∃t,u=Value.float y t from rx);cases q;exact PySem.W.kia_one PySem.W.kitx_float I.kIn True.intro e (fun z=>nomatch z) h
 |@lst a xs ea=>
  cases (show u=Value.ref a from rx)
  obtain ⟨_,_,n,_,h1⟩:=(show ObjOk X.prog X.w H s.heap a (.lst xs) from I.hok a _ ea)
  exact PySem.W.kia_one PySem.W.kitx_list I.kIn ⟨_,h1,rfl⟩ e (fun z=>nomatch z) h
 |@frz a ob xs ea=>
  cases (show u=Value.ref a from rx)
  obtain ⟨_,_,_,n,_,h1⟩:=(show ObjOk X.prog X.w H s.heap a (.frz ob (.lst xs)) from I.hok a _ ea)
  exact PySem.W.kia_one PySem.W.kitx_list I.kIn ⟨_,h1,rfl⟩ e (fun z=>nomatch z) h
 |@tup a xs ea=>
  cases (show u=Value.ref a from rx)
  obtain ⟨_,_,_,p,_⟩:=(show ObjOk X.prog X.w H s.heap a (.tup xs) from I.hok a _ ea)
  obtain ⟨o,h1,h2,_⟩:=p
  exact PySem.W.kia_one PySem.W.kitx_tuple I.kIn ⟨o,h1,h2⟩ e (fun z=>nomatch z) h
end
structure Room (k:Nat) (A:Around):Prop where
 hd:A.handled=none
 dp:A.depth+3*k+5<recursionLimit
 un:A.units+16*k+200<cLine
 gd:A.guards=some []
theorem Room.mono {j k:Nat} {A:Around} (r:Room k A) (h:j≤k):Room j A:=⟨r.hd,by have:=r.dp;omega,by have:=r.un;omega,r.gd⟩
theorem Room.deeper {k:Nat} {A:Around} (r:Room (k+1) A) (env:Env):Room k (A.deeper env):=
 ⟨r.hd,by have:=r.dp;show A.depth+1+3*k+5<_;omega,by have:=r.un;show A.units+3+16*k+200<_;omega,r.gd⟩
theorem Room.depth {k:Nat} {A:Around} (r:Room k A):A.depth<recursionLimit:=by have:=r.dp;omega
theorem Room.units {k:Nat} {A:Around} (r:Room k A):A.units+64<cLine:=by have:=r.un;omega
def Px:TA:=fun _ H Q=>Q [] H
def Vy (ta:TE) (tr:TA):TA:=fun σ H Q=>ta σ H fun x H1=>tr σ H1 fun xs H2=>Q (x::xs) H2
section
variable {X:Cx} {e:Expr} {es:List Expr} {te:TE} {t:TA} {pos:Pos}
theorem Jg:PA X [] Px:=fun _ _ _ _ H Q I h=>Calls.spliced_nil ⟨[],H,I,.nil,h⟩
theorem Jh (ha:PE X e te) (hr:PA X es t) (hs:starEach (e::es) X.env=(false,eval e X.env)::starEach es X.env:=by rfl):PA X (e::es) (Vy te t):=by
 intro pos pins s σ H Q I h
 rw [hs]
 show wpAny _ _ (spliced ((false,eval e X.env)::backTo pos (starEach es X.env))) _ _ s
 refine Calls.spliced_cons (Ax (ha pins s σ H _ I h) fun u s1 z68_=>?_)
 obtain ⟨x,H1,I1,r1,q1⟩:=z68_
 exact Ax (hr pos pins s1 σ H1 _ I1 q1) fun us s2 z69_=>by obtain ⟨xs,H2,I2,r2,q2⟩:=z69_;exact (⟨x::xs,H2,I2,.cons r1 r2,q2⟩)
def Vz (t:TA):TE:=fun σ H Q=>t σ H fun xs H1=>xs.length≤sizeLine∧∀p,H1 p=none→Q (.ref p) (Ao H1 p (.tup xs))
def VA (t:TA):TE:=fun σ H Q=>t σ H fun xs H1=>xs.length≤sizeLine∧∀p,H1 p=none→Q (.ref p) (Ao H1 p (.lst xs))
theorem VB {x1} (h:PA X es t):PE X (.Tuple es x1 pos) (Vz t):=by
 intro pins s σ H Q I hq
 refine wpAny_Tuple_spliced (Ax (h pos pins s σ H _ I hq) fun us s1 ⟨xs,H1,I1,r,z,q⟩=>⟨by rw [←r.length];exact z,?_⟩)
 have hf:H1 s1.heap.objs.size=none:=I1.hok.fresh (AF _)
 refine ⟨.ref s1.heap.objs.size,Ao H1 s1.heap.objs.size (.tup xs),I1.laid (t':=s1.toks) (fun b u e=>AB _ e) (AF _) ?_,rfl,q _ hf⟩
 exact ⟨z,us,r,⟨_,A7 _ rfl,rfl,_,rfl⟩,NoDict.new⟩
theorem VC (h:PA X es t):PE X (.List es pos) (VA t):=by
 intro pins s σ H Q I hq
 refine wpAny_List_spliced (Ax (h pos pins s σ H _ I hq) fun us s1 ⟨xs,H1,I1,r,z,q⟩=>⟨by rw [←r.length];exact z,?_⟩)
 have hf:H1 s1.heap.objs.size=none:=I1.hok.fresh (AF _)
 refine ⟨.ref s1.heap.objs.size,Ao H1 s1.heap.objs.size (.lst xs),I1.laid (t':=s1.toks) (fun b u e=>AB _ e) (AF _) ?_,rfl,q _ hf⟩
 exact ⟨z,us,0,r,A7 _ rfl⟩
end
abbrev Sp:=List V→Hp→VK→XK→Prop
abbrev Eh:=List Env→Hp→Shared→XK→Value→Shared→Prop
structure FW (P:Program) (w:World) (K:PySem.W.Frag) (mg:Str→Option Value) (base:Heap) (A:Around) (outer:List Env) (s:Shared) (H:Hp):Prop where
 frames:A.frames=some outer
 mod:Mod K mg base
 bs:∀b o,base.get? b=some o→s.heap.get? b=some o∧H b=none
 bsz:base.objs.size≤s.heap.objs.size
 funs:s.heap.FunFrames base outer
 frf:∀b∈frs outer,H b=none
 hok:HOk P w H s.heap
 bare:AllBare s.gens
inductive CE (outer:List Env) (P:Program) (w:World) (H:Hp) (s:Shared) (Q:VK) (u:Value) (s':Shared):Prop where
 |mk (v:V) (H':Hp) (os:s'.os=s.os) (bare:AllBare s'.gens) (un:Un (frs outer) [] H H' s.heap s'.heap) (hok:HOk P w H' s'.heap) (r:RelV v u) (q:Q v H'):CE outer P w H s Q u s'
def CR (CX:Eh) (outer:List Env) (P:Program) (w:World) (H:Hp) (s:Shared) (Q:VK) (E:XK) (r:Result) (s':Shared):Prop:=
 match r with
 |.ok (.ret u)=>CE outer P w H s Q u s'
 |.ok _=>False
 |.error e=>CX outer H s E e s'
structure FnOk (P:Program) (w:World) (K:PySem.W.Frag) (mg:Str→Option Value) (base:Heap) (CX:Eh) (k:Nat) (f:Addr) (fd:FuncData) (ps:List Str) (sp:Sp):Prop where
 len:∀vs H Q E,sp vs H Q E→vs.length=ps.length
 run:∀(A:Around) (outer:List Env) (s:Shared) (H:Hp) (args:Args) (us:List Value) (vs:List V) (Q:VK) (E:XK),Room k A→FW P w K mg base A outer s H→BindsTo s fd args (ps.zip us)→Vals vs us→sp vs H Q E→
  codeAny (model P w) A (.call (.ref f) args) (CR CX outer P w H s Q E) s
theorem FnOk.mono {P:Program} {w:World} {K:PySem.W.Frag} {mg:Str→Option Value} {base:Heap} {CX:Eh} {j k:Nat} {f:Addr} {fd:FuncData} {ps:List Str} {sp:Sp} (F:FnOk P w K mg base CX j f fd ps sp) (h:j≤k):
 FnOk P w K mg base CX k f fd ps sp:=⟨F.len,fun A outer s H args us vs Q E hr=>F.run A outer s H args us vs Q E (hr.mono h)⟩
theorem FnOk.imp {P:Program} {w:World} {K:PySem.W.Frag} {mg:Str→Option Value} {base:Heap} {CX:Eh} {k:Nat} {f:Addr} {fd:FuncData} {ps:List Str} {sp sp':Sp} (F:FnOk P w K mg base CX k f fd ps sp)
 (h:∀vs H Q E,sp' vs H Q E→sp vs H Q E):FnOk P w K mg base CX k f fd ps sp':=
 ⟨fun vs H Q E q=>F.len vs H Q E (h _ _ _ _ q),fun A outer s H args us vs Q E hr he hb hv hs=>F.run A outer s H args us vs Q E hr he hb hv (h _ _ _ _ hs)⟩
section
variable {X:Cx} {pins:List (Addr×Obj)} {σ:St} {H:Hp} {s s':Shared}
theorem Inv.env0 (I:Inv X pins σ H s):FW X.prog X.w X.K X.mg X.base X.A X.stack s H:=
 ⟨I.ok.frames,I.ok.mod,I.bs,Ca I.ok.bsz I.sz,I.stack,I.stkFree,I.hok,I.bare⟩
theorem Inv.after {Q:VK} {u:Value} (I:Inv X pins σ H s) (h:CE X.stack X.prog X.w H s Q u s'):EP X pins σ Q u s':=by
 obtain ⟨v,H',os,bare,un,hok,r,q⟩:=h
 obtain ⟨hh,g,d,t,os'⟩:=s'
 obtain rfl:os'=s.os:=os
 exact ⟨v,H',I.call (h':=hh) (g':=g) (d':=d) (t':=t) (ch:=[]) un hok bare (fun b z=>absurd z (by simp)),r,q⟩
end
def Pz (sp:Sp) (dvs:List V) (E:XK) (t:TA):TE:=fun σ H Q=>t σ H fun vs H1=>sp (vs++dvs) H1 Q E
def Binds (K:PySem.W.Frag) (fd:FuncData) (ps:List Str) (ds:List Value):Prop:=
 ∀(s:Shared) (us:List Value),K.In s.heap→(us++ds).length=ps.length→BindsTo s fd ⟨us,[]⟩ (ps.zip (us++ds))
theorem Binds.all {K:PySem.W.Frag} {fd:FuncData} {ps:List Str} (h:∀us:List Value,us.length=ps.length→bindArgs fd ⟨us,[]⟩=pure (ps.zip us)):Binds K fd ps []:=fun s us _ hl=>by
 rw [Gr] at hl ⊢
 exact .of_eq (h us hl)
def EU (CX:Eh) (X:Cx) (E:XK):Prop:=∀(pins:List (Addr×Obj)) (σ:St) (H:Hp) (s:Shared) (e:Value) (s':Shared),Inv X pins σ H s→CX X.stack H s E e s'→X.xe e s'
section
variable {X:Cx} {CX:Eh} {k:Nat} {f C:Addr} {fd:FuncData} {ps:List Str} {sp:Sp} {dvs:List V} {ds:List Value} {E:XK} {x m:Str} {p pos apos:Pos} {e o:Expr} {es:List Expr} {ta:TE} {t:TA}
theorem M6 {pins:List (Addr×Obj)} {σ:St} {H:Hp} {s:Shared} {Q:VK} {us:List Value} {vs:List V} (F:FnOk X.prog X.w X.K X.mg X.base CX k f fd ps sp) (hr:Room k X.A) (hb:Binds X.K fd ps ds) (hd:Vals dvs ds) (hx:EU CX X E)
 (I:Inv X pins σ H s) (r:Vals vs us) (h:sp (vs++dvs) H Q E):wpAny (model X.prog X.w) X.A (call (.ref f) us) (EP X pins σ Q) X.xe s:=by
 have r2:Vals (vs++dvs) (us++ds):=r.append hd
 have hl:(us++ds).length=ps.length:=by rw [←r2.length];exact F.len _ _ _ _ h
 refine wpAny_call (codeAny_mono (F.run X.A X.stack s H ⟨us,[]⟩ (us++ds) (vs++dvs) Q E hr I.env0 (hb s us I.kIn hl) r2 h) fun r s' hq=>?_)
 cases r with
 |error e=>exact hx pins σ H s e s' I hq
 |ok fl=>
  cases fl with
  |ret u=>exact I.after hq
  |next=>exact False.elim hq
  |brk=>exact False.elim hq
  |cont=>exact False.elim hq
theorem VD (F:FnOk X.prog X.w X.K X.mg X.base CX k f fd ps sp) (hr:Room k X.A) (hg:Gl X x) (hm:X.mg x=some (.ref f)) (hk:PySem.W.keepIn X.K (.ref f)=true) (hb:Binds X.K fd ps ds) (hd:Vals dvs ds) (hx:EU CX X E)
 (ha:PA X (e::es) t) (hdb:(x==("__debug__":Str))=false:=by decide) (he:starEach (e::es) X.env=(false,eval e X.env)::starEach es X.env:=by rfl) (hpl:(backTo pos (starEach es X.env)).any (·.1)=false:=by rfl):
 PE X (.Call (.Name x p) (e::es) [] pos) (Pz sp dvs E t):=by
 intro pins s σ H Q I h
 refine wpAny_Call_Name_kw (Gw I hg hm ?_ hdb)
 refine PySem.W.callWith_K (h₀:=X.base) I.ok.mod.kin hk (Ax (ha pos pins s σ H _ I h) ?_) he hpl
 rintro us s1 ⟨vs,H1,I1,r,q⟩
 refine ⟨I1.kIn,?_⟩
 exact M6 F hr hb hd hx I1 r q
theorem VE (F:FnOk X.prog X.w X.K X.mg X.base CX k f fd ps sp) (hr:Room k X.A) (hg:Gl X x) (hm:X.mg x=some (.ref f)) (hk:PySem.W.keepIn X.K (.ref f)=true) (hb:Binds X.K fd ps ds) (hd:Vals dvs ds) (hx:EU CX X E)
 (hdb:(x==("__debug__":Str))=false:=by decide):PE X (.Call (.Name x p) [] [] pos) (Pz sp dvs E Px):=by
 intro pins s σ H Q I h
 refine wpAny_Call_Name_kw (Gw I hg hm ?_ hdb)
 exact PySem.W.callWith_K0 I.kIn hk (M6 (us:=[]) F hr hb hd hx I .nil h)
end
section
variable {X:Cx} {CX:Eh} {k:Nat} {f C:Addr} {fd:FuncData} {ps ks:List Str} {sp:Sp} {E:XK} {x m:Str} {p pos apos kpos:Pos} {e o:Expr} {es:List Expr} {kws:List Keyword} {te ta:TE} {t tk:TA} {nm:Option Str}
variable {g:List Value→List Value→List Value} {gV:List V→List V→List V}
end
structure AY (N P:List Str) (sc:Scope):Prop where
 kind:sc.kind=.function
 co:sc.isCoroutine=false
 gen:sc.isGenerator=false
 nd:N.Nodup
 pre:N.take P.length=P
 par:∀x∈P,sc.names.lookup x=some .local∨sc.names.lookup x=some .cell
 nofree:∀y∈sc.names,y.2≠.free
theorem PB {kindOf:Str→Option NameKind} {x:Str}:∀{binds:List (Str×Value)} {m:Str→Option Value},(∀v,(x,v)∉binds)→bindL kindOf binds m x=m x
 |[],_,_=>rfl
 |(n,v)::r,m,h=>by
  unfold bindL
  rw [PB fun w hw=>h w (Bf _ hw)]
  split
  ·have:x≠n:=by rintro rfl;exact h v A8
   simp [this]
  ·rfl
theorem PC {kindOf:Str→Option NameKind} {x:Str}:∀{binds:List (Str×Value)} {m:Str→Option Value},(∀v,(x,v)∉binds)→bindC kindOf binds m x=m x
 |[],_,_=>rfl
 |(n,v)::r,m,h=>by
  unfold bindC
  rw [PC fun w hw=>h w (Bf _ hw)]
  split
  ·rfl
  ·have:x≠n:=by rintro rfl;exact h v A8
   simp [this]
theorem M7 {kindOf:Str→Option NameKind} {x:Str} {v:Value}:∀{P:List Str} {vs:List Value} {i:Nat} {m:Str→Option Value},P.Nodup→P[i]?=some x→vs[i]?=some v→kindOf x=some .local→
 bindL kindOf (P.zip vs) m x=some v
 |[],_,_,_,_,h,_,_=>by simp at h
 |_::_,[],_,_,_,_,h,_=>by simp at h
 |p::P,w::vs,0,m,nd,h1,h2,hk=>by
  simp at h1 h2;subst h1;subst h2
  show bindL kindOf ((p,w)::P.zip vs) m p=_
  unfold bindL
  rw [PB fun v hv=>(qbV.mp nd).1 (Kq hv).1,if_pos hk]
  simp
 |p::P,w::vs,i+1,m,nd,h1,h2,hk=>by
  show bindL kindOf ((p,w)::P.zip vs) m x=_
  unfold bindL
  exact M7 (i:=i) (qbV.mp nd).2 (by simpa using h1) (by simpa using h2) hk
theorem M8 {kindOf:Str→Option NameKind} {x:Str} {v:Value}:∀{P:List Str} {vs:List Value} {i:Nat} {m:Str→Option Value},P.Nodup→P[i]?=some x→vs[i]?=some v→kindOf x≠some .local→
 bindC kindOf (P.zip vs) m x=some v
 |[],_,_,_,_,h,_,_=>by simp at h
 |_::_,[],_,_,_,_,h,_=>by simp at h
 |p::P,w::vs,0,m,nd,h1,h2,hk=>by
  simp at h1 h2;subst h1;subst h2
  show bindC kindOf ((p,w)::P.zip vs) m p=_
  unfold bindC
  rw [PC fun v hv=>(qbV.mp nd).1 (Kq hv).1,if_neg hk]
  simp
 |p::P,w::vs,i+1,m,nd,h1,h2,hk=>by
  show bindC kindOf ((p,w)::P.zip vs) m x=_
  unfold bindC
  exact M8 (i:=i) (qbV.mp nd).2 (by simpa using h1) (by simpa using h2) hk
def start (N:List Str) (vs:List V):St:=vs.map some++List.replicate (N.length - vs.length) none
def AI (CX:Eh) (P:Program) (w:World) (K:PySem.W.Frag) (mg:Str→Option Value) (base:Heap) (N:List Str) (qual:Str) (scope:Scope) (f:Addr) (cd:Value) (A:Around) (outer:List Env) (s:Shared) (H:Hp) (E:XK):Cx where
 prog:=P
 w:=w
 K:=K
 mg:=mg
 base:=base
 A:=A.deeper (envOfC qual scope s.heap.objs.size f cd)
 N:=N
 s₀:=s
 H₀:=H
 env:=envOfC qual scope s.heap.objs.size f cd
 outer:=outer
 stack:=envOfC qual scope s.heap.objs.size f cd::outer
 ex:=[]
 calm:=true
 fn:=fun _=>true
 pn:=[]
 xe:=fun e s'=>wpAny (model P w) (A.deeper (envOfC qual scope s.heap.objs.size f cd)) (leaving (envOfC qual scope s.heap.objs.size f cd) e) (fun _ s''=>CX outer H s E e s'') (fun e' s''=>CX outer H s E e' s'') s'
theorem KG {sc:Scope} {n:Nat} {x:Str} (h:sc.names.lookup x=some .cell):∃c,(cellsFrom n sc.names []).lookup x=some c:=by
 have q:=PySem.W.cellsFrom_some sc.names n [] (.inl h)
 exact qbT.mp q
theorem PD {CX:Eh} {P:Program} {w:World} {K:PySem.W.Frag} {mg:Str→Option Value} {base:Heap} {N ps:List Str} {qual:Str} {scope:Scope} {f:Addr} {cd:Value} {A:Around} {outer:List Env} {s s1:Shared} {H:Hp} {E:XK} {us:List Value} {vs:List V}
 (S:AY N ps scope) (hd:A.handled=none) (e0:FW P w K mg base A outer s H) (hl:vs.length=ps.length) (r:Vals vs us)
 (x:InCallC s s.heap.objs.size (bindL (envOfC qual scope s.heap.objs.size f cd).kindOf (ps.zip us) fun _=>none) (cellsFrom (s.heap.objs.size+1) scope.names []) (bindC (envOfC qual scope s.heap.objs.size f cd).kindOf (ps.zip us) fun _=>none) s1):
 Inv (AI CX P w K mg base N qual scope f cd A outer s H E) [] (start N vs) H s1:=by
 have hpl:ps.length≤N.length:=by have:=congrArg List.length S.pre;rw [I0] at this;omega
 obtain ⟨h1,tk,rfl,hk⟩:=x.done
 have noA:∀b:Addr,b∉(AI CX P w K mg base N qual scope f cd A outer s H E).ex:=fun b z=>absurd (show b∈([]:List Addr) from z) (by simp)
 refine ⟨⟨e0.mod,S.kind,rfl,rfl,AF _,fun y z c h1 h2=>?_,fun y hy=>?_,fun y c _ h=>?_,fun _=>hd,Around.frames_deeper e0.frames,.inr ⟨rfl,rfl⟩,fun b z=>absurd z (noA b),e0.bs,e0.bsz,fun b _ _=>noA b,fun b z=>absurd z (noA b),e0.funs,e0.frf⟩,
  rfl,e0.bare,Un.kept hk,⟨_,x.toInCall.ns,fun i y v h1 h2 h3=>?_⟩,fun y c h=>⟨_,x.cell y c h⟩,e0.hok.fresh (AF _),fun y c h=>?_,fun p hp=>absurd (show p∈([]:List (Addr×Obj)) from hp) (by simp),e0.hok.kept hk,?_⟩
 ·exact name_of_addr x.apart (PySem.mem_of_lookup h1) (PySem.mem_of_lookup h2)
 ·have hy:scope.names.lookup y=some .cell∨scope.names.lookup y=some .free:=hy
  rcases hy with hy |hy
  ·exact KG hy
  ·exact absurd rfl (S.nofree _ (PySem.mem_of_lookup hy))
 ·exact Ft (x.above y c (PySem.mem_of_lookup h))
 ·have hi:i<vs.length:=by
   unfold start at h2
   by_cases hi:i<vs.length
   ·exact hi
   ·rw [IX (by simpa using hi)] at h2
    rw [ML] at h2
    split at h2<;>cases h2
  have ha:vs[i]?=some v:=by
   unfold start at h2
   rw [Fo (by simpa using hi),Ck] at h2
   cases e:vs[i]? with
   |none=>rw [e] at h2;cases h2
   |some a=>rw [e] at h2;cases h2;rfl
  obtain ⟨u,hu,rv⟩:=r.get ha
  have hp:ps[i]?=some y:=by
   rw [←S.pre,List.getElem?_take_of_lt (by omega)];exact h1
  have ndP:ps.Nodup:=by rw [←S.pre];exact S.nd.sublist (List.take_sublist _ _)
  refine ⟨u,rv,?_⟩
  rcases S.par y (Gn hp) with k |k
  ·exact .inl ⟨k,M7 ndP hp hu k⟩
  ·obtain ⟨c,e⟩:=KG (n:=s.heap.objs.size+1) k
   refine .inr ⟨.inl k,c,e,?_⟩
   have q:=x.cell y c e
   rw [M8 ndP hp hu (by show scope.names.lookup y≠_;rw [k];decide)] at q
   exact q
 ·exact e0.hok.fresh (Ft (x.above y c (PySem.mem_of_lookup h)))
 ·unfold start
  show _=N.length
  rw [FQ,CA,List.length_replicate]
  omega
theorem PF {CX:Eh} {P:Program} {w:World} {K:PySem.W.Frag} {mg:Str→Option Value} {base:Heap} {k:Nat} {f:Addr} {name qual:Str} {params:Arguments} {body:List Stmt} {scope:Scope} {dV kV doc pm cdv ct oc:Value} {an od:Option Addr}
 {osl:Array (Option Value)} {N ps:List Str} {sp:Sp} (lk:K.lookup f=some ⟨oc,od,.func (PySem.W.fnOf name qual params body scope dV kV doc pm an cdv ct),osl⟩) (hcd:PySem.W.codeIn K cdv qual=true) (S:AY N ps scope)
 (len:∀vs H Q E,sp vs H Q E→vs.length=ps.length)
 (hbody:∀(A:Around) (outer:List Env) (s:Shared) (H:Hp) (vs:List V) (Q:VK) (E:XK),Room k (A.deeper (envOfC qual scope s.heap.objs.size f cdv))→sp vs H Q E→
  ∃t,DW (AI CX P w K mg base N qual scope f cdv A outer s H E) body t∧t {nx:=fun _ H'=>Q .non H',rt:=Q} (start N vs) H):
 FnOk P w K mg base CX (k+1) f (PySem.W.fnOf name qual params body scope dV kV doc pm an cdv ct) ps sp:=by
 refine ⟨len,fun A outer s H args us vs Q E hr e0 hb r hsp=>?_⟩
 have hl:=len _ _ _ _ hsp
 have KX:K.In s.heap:=e0.mod.kin.keeps fun b o e=>(e0.bs b o e).1
 have lim:s.heap.NoLimit:=e0.mod.nolimit.keeps fun b o e=>(e0.bs b o e).1
 have hkind:∀y∈ps.zip us,scope.names.lookup y.1=some .local∨(scope.names.lookup y.1=some .cell∧((cellsFrom (s.heap.objs.size+1) scope.names []).lookup y.1).isSome=true):=fun z81_ hy=>by
  obtain ⟨n,v⟩:=z81_
  rcases S.par n (Kq hy).1 with q |q
  ·exact .inl q
  ·exact .inr ⟨q,PySem.W.cellsFrom_some _ _ _ (.inl q)⟩
 refine codeAny_call_function hr.depth (KX _ _ lk) rfl S.co S.gen rfl (PySem.W.codeRec_of KX hcd) (hb _ _ _ _ ?_)
 refine wpAny_newFunctionEnv_cells S.kind hkind fun env he s1 x=>?_
 subst he
 refine ⟨lim.keeps x.toInCall.keep,codeAny_func ?_⟩
 obtain ⟨t,ht,hq⟩:=hbody A outer s H vs Q E (hr.deeper _) hsp
 have I:Inv (AI CX P w K mg base N qual scope f cdv A outer s H E) [] (start N vs) H s1:=PD S hr.hd e0 hl r x
 refine wpAny_mono (ht [] s1 (start N vs) H _ I hq) (fun fl s' hs=>?_) fun e s' hs=>hs
 have A1:∀{σ':St} {H':Hp} {v:V} {u:Value},Inv (AI CX P w K mg base N qual scope f cdv A outer s H E) [] σ' H' s'→RelV v u→Q v H'→CE outer P w H s Q u s':=
  fun {σ' H' v u} J rv q=>⟨v,H',J.os,J.bare,J.base,J.hok,rv,q⟩
 cases fl with
 |ret u=>
  obtain ⟨v,σ',H',J,rv,q⟩:=hs
  exact A1 J rv q
 |next=>
  obtain ⟨σ',H',J,q⟩:=hs
  exact A1 (v:=V.non) (u:=Value.none) J rfl q
 |brk=>
  obtain ⟨_,_,_,q⟩:=hs
  exact False.elim q
 |cont=>
  obtain ⟨_,_,_,q⟩:=hs
  exact False.elim q
section
variable {X:Cx} {x:Str} {p pos:Pos} {e:Expr} {es:List Expr} {t:TA} {id T:String} {r:List V→Hp→VK→Prop}
def PH (r:List V→Hp→VK→Prop) (t:TA):TE:=fun σ H Q=>t σ H fun vs H1=>r vs H1 Q
theorem PJ (hc:CQ X (.builtin id) r) (hg:Gl X x) (hm:X.mg x=none) (hv:bootBuiltins x=some (.builtin id)) (ha:PA X (e::es) t) (hn:x≠"__name__":=by decide) (hdb:(x==("__debug__":Str))=false:=by decide)
 (he:starEach (e::es) X.env=(false,eval e X.env)::starEach es X.env:=by rfl) (hpl:(backTo pos (starEach es X.env)).any (·.1)=false:=by rfl):PE X (.Call (.Name x p) (e::es) [] pos) (PH r t):=by
 intro pins s σ H Q I h
 refine wpAny_Call_Name_kw (Gx I hg hm hv ?_ hn hdb)
 exact PyProof.Rows.callWith_builtin1 (Ax (ha pos pins s σ H _ I h) fun us s1 z82_=>by obtain ⟨vs,H1,I1,r1,q1⟩:=z82_;exact (hc pins s1 σ H1 vs us Q I1 r1 q1)) he hpl
theorem KH (hc:CQ X (.type T) r) (hg:Gl X x) (hm:X.mg x=none) (hv:bootBuiltins x=some (.type T)) (ha:PA X (e::es) t) (hn:x≠"__name__":=by decide) (hdb:(x==("__debug__":Str))=false:=by decide)
 (he:starEach (e::es) X.env=(false,eval e X.env)::starEach es X.env:=by rfl) (hpl:(backTo pos (starEach es X.env)).any (·.1)=false:=by rfl):PE X (.Call (.Name x p) (e::es) [] pos) (PH r t):=by
 intro pins s σ H Q I h
 refine wpAny_Call_Name_kw (Gx I hg hm hv ?_ hn hdb)
 exact PyProof.Rows.callWith_type1 (Ax (ha pos pins s σ H _ I h) fun us s1 z83_=>by obtain ⟨vs,H1,I1,r1,q1⟩:=z83_;exact (hc pins s1 σ H1 vs us Q I1 r1 q1)) he hpl
end
end L2
namespace HT
open PySem PyProof.Rows
section
open PySem.SeqAt
open PySem.AutoSeq1 (wpAny_loadPart')
open PySem.MeetsSeq PySem.MeetsSeq2 PySem.MeetsSeq3
end
section
variable {prog:Program} {w:World} {A:Around} {E:Value→Shared→Prop} {s:Shared}
theorem cat_tup {t b:Addr} {vs ws:List Value} {Q:Value→Shared→Prop} (ht:IsTup s.heap t vs.toArray) (hb:IsTup s.heap b ws.toArray) (hv:vs≠[])
 (h1:ws=[]→Q (.ref t) s) (h2:ws≠[]→Q (.ref s.heap.objs.size) {s with heap:=s.heap.push {cls:=.type "tuple",data:=.seq (vs++ws).toArray}})
 (hsz:vs.length+ws.length≤sizeLine):wpAny (model prog w) A (binaryOp .Add (.ref t) (.ref b)) Q E s:=by
 obtain ⟨⟨cls,dd,data,sl⟩,ho,hc,n,hd⟩:=id ht
 obtain ⟨⟨cls2,dd2,data2,sl2⟩,ho2,hc2,n2,hd2⟩:=id hb
 simp only at hc hd hc2 hd2
 subst hc hd hc2 hd2
 have e:vs.toArray++ws.toArray=(vs++ws).toArray:=by simp
 by_cases hw:ws=[]
 ·exact concat_meets ⟨_,ho,rfl⟩ ⟨_,ho2,rfl⟩ noFill_tuple_add seq_tuple_add PySem.F.slot_tuple_add PySem.F.entry_tuple_add (PySem.F.args_tuple_add_2 _ _)
   (tuple_addW1 t b vs.toArray ws.toArray n n2 dd dd2 sl sl2 (by simpa using hv) (by simp [hw])) ⟨ho,ho2,h1 hw⟩
 ·refine concat_meets ⟨_,ho,rfl⟩ ⟨_,ho2,rfl⟩ noFill_tuple_add seq_tuple_add PySem.F.slot_tuple_add PySem.F.entry_tuple_add (PySem.F.args_tuple_add_2 _ _)
   (tuple_addW2 t b vs.toArray ws.toArray n n2 dd dd2 sl sl2 (by simpa using hv) (by simpa using hw) (by rw [A9,A9];exact hsz)) ⟨ho,ho2,?_⟩
  rw [e]
  exact h2 hw
def sIx (n d:Nat):Option Int→Nat
 |none=>d
 |some v=>if v<0 then (v+(n:Int)).toNat else min v.toNat n
theorem sIx_none (n d:Nat):sIx n d none=d:=rfl
theorem sIx_nat (n d k:Nat):sIx n d (some (k:Int))=min k n:=by
 show (if (k:Int)<0 then ((k:Int)+(n:Int)).toNat else min (k:Int).toNat n)=min k n
 rw [if_neg (by omega),HI]
theorem VF (n d:Nat) (hd:d≤n) (o:Option Int):sIx n d o≤n:=by
 cases o with
 |none=>exact hd
 |some v=>
  show (if v<0 then (v+(n:Int)).toNat else min v.toNat n)≤n
  by_cases hv:v<0
  ·rw [if_pos hv];omega
  ·rw [if_neg hv];exact Nat.min_le_right _ _
theorem PK (v:Int) (n d:Nat):(if v<0 then max (v+(n:Int)) 0 else min v (n:Int))=((sIx n d (some v):Nat):Int):=by
 show (if v<0 then max (v+(n:Int)) 0 else min v (n:Int))=(((if v<0 then (v+(n:Int)).toNat else min v.toNat n):Nat):Int)
 by_cases hv:v<0
 ·simp only [if_pos hv];omega
 ·simp only [if_neg hv];omega
theorem VG (lo hi:Option Int) (n:Nat):Builtin.Slice.sliceAdjust lo hi 1 (n:Int)=(((sIx n 0 lo:Nat):Int),((sIx n n hi:Nat):Int)):=by
 have h1:¬((1:Int)<0):=by omega
 unfold Builtin.Slice.sliceAdjust
 simp only [h1,if_false]
 refine Prod.ext ?_ ?_
 ·cases lo with
  |none=>rfl
  |some v=>exact PK v n 0
 ·cases hi with
  |none=>rfl
  |some v=>exact PK v n n
theorem VH (i j:Nat):Builtin.Slice.slicePlaces (i:Int) (j:Int) 1=j - i:=by
 unfold Builtin.Slice.slicePlaces
 have h1:(1:Int)>0:=by omega
 simp only [h1,if_true,Int.ediv_one]
 split<;>omega
theorem PL {v:Value} {o:Option Int} {Q:Option Int→Shared→Prop} (p:IsPart v o) (h:Q o s):wpAny (model prog w) A (Builtin.Slice.slicePartIndex v) Q E s:=by
 cases p with
 |none=>exact slicePart_none h
 |int i t=>exact slicePart_int h
theorem sliceApplied_gen {sl:Addr} {vl vu:Value} {lo hi:Option Int} {n:Nat} {Q:Int×Int×Nat→Shared→Prop} (hs:s.heap.IsSliceOf sl vl vu .none) (pl:IsPart vl lo) (pu:IsPart vu hi)
 (h:Q (((sIx n 0 lo:Nat):Int),1,sIx n n hi - sIx n 0 lo) s):wpAny (model prog w) A (Builtin.Slice.sliceApplied (.ref sl) (pure (n:Int))) Q E s:=by
 obtain ⟨os,hos,hcs,hds⟩:=id hs
 unfold Builtin.Slice.sliceApplied Builtin.Slice.sliceFields
 refine wpAny_bind (wpAny_bind (wpAny_field hos hds (x:=vl) rfl (wpAny_bind (wpAny_field hos hds (x:=vu) rfl (wpAny_bind (wpAny_field hos hds (x:=.none) rfl (wpAny_pure ?_)))))))
 refine wpAny_bind (slicePart_none ?_)
 show wpAny _ _ (if ((1:Int)==0)=true then _ else _) _ _ s
 rw [if_neg (by decide)]
 refine wpAny_bind (PL pl (wpAny_bind (PL pu (wpAny_bind (wpAny_pure ?_)))))
 show wpAny _ _ (match Builtin.Slice.sliceAdjust lo hi 1 (n:Int) with |(lo,hi)=>pure (lo,(1:Int),Builtin.Slice.slicePlaces lo hi 1)) _ _ s
 rw [VG lo hi n]
 show wpAny _ _ (pure (((sIx n 0 lo:Nat):Int),(1:Int),Builtin.Slice.slicePlaces ((sIx n 0 lo:Nat):Int) ((sIx n n hi:Nat):Int) 1)) _ _ s
 rw [VH]
 exact wpAny_pure h
theorem VI (xs:Array Value) (i k:Nat):((List.range k).filterMap fun (m:Nat)=>xs[((i:Int)+(m:Int)*1).toNat]?).toArray=((xs.toList.drop i).take k).toArray:=by
 have e:(fun (m:Nat)=>xs[((i:Int)+(m:Int)*1).toNat]?)=fun m=>xs[i+m]?:=by
  funext m
  have:((i:Int)+(m:Int)*1).toNat=i+m:=by omega
  rw [this]
 rw [e]
 have:=pick_run xs i k
 rw [List.filterMap_map] at this
 have e2:((fun x=>xs[x]?)∘fun x=>i+x)=fun m=>xs[i+m]?:=rfl
 rw [e2] at this
 rw [this]
theorem getItem_tuple_cut {t sl:Addr} {items:Array Value} {vl vu:Value} {lo hi:Option Int} {Q:Value→Shared→Prop} (ht:IsTup s.heap t items) (hs:s.heap.IsSliceOf sl vl vu .none) (pl:IsPart vl lo) (pu:IsPart vu hi)
 (hw:¬(sIx items.size 0 lo=0∧sIx items.size items.size hi=items.size))
 (h:Q (.ref s.heap.objs.size) {s with heap:=s.heap.push {cls:=.type "tuple",data:=.seq ((items.toList.drop (sIx items.size 0 lo)).take (sIx items.size items.size hi - sIx items.size 0 lo)).toArray}})
 (hsz:items.size≤sizeLine):wpAny (model prog w) A (getItem (.ref t) (.ref sl)) Q E s:=by
 have htake:sizeOk (.seq ((items.toList.drop (sIx items.size 0 lo)).take (sIx items.size items.size hi - sIx items.size 0 lo)).toArray):=by
  show ((items.toList.drop (sIx items.size 0 lo)).take (sIx items.size items.size hi - sIx items.size 0 lo)).toArray.size≤sizeLine
  rw [A9,I0,List.length_drop,Array.length_toList]
  omega
 have hj:sIx items.size items.size hi≤items.size:=VF _ _ (AF _) hi
 obtain ⟨os,hos,hcs,hds⟩:=id hs
 have hTs:s.TypeIs (.ref sl) "slice":=⟨os,hos,hcs⟩
 unfold getItem
 try with_reducible refine wpAny_holding ?_
 first |refine wpAny_bind (wpAny_pure ?_) |skip
 refine wpAny_bind (wpAny_sequenceKey ht.typeIs (by decide) ?_)
 refine wpAny_bind (wpAny_callSpecial?_slot (name:=Str.ofString "__getitem__") ht.typeIs PyProof.Rows.slot_tuple_getitem
  (wpAny_call_entry PyProof.Rows.slot_tuple_getitem ht.typeIs entry_tuple_getitem ?_ (args_tuple_getitem _ _)))
 show wpAny _ _ (Builtin.Tuple.tupleItemsOf (.ref t) >>=_) _ _ s
 refine wpAny_bind (tupleItemsOf_ ht ?_)
 refine wpAny_bind (wpAny_typeOf hTs ?_)
 rw [if_pos (by decide)]
 refine wpAny_bind (sliceApplied_gen hs pl pu ?_)
 have hno:¬((((sIx items.size 0 lo:Nat):Int)==0&&(1:Int)==1&&(sIx items.size items.size hi - sIx items.size 0 lo)==items.size)=true):=by
  intro q
  rw [CP,CP] at q
  have q1:((sIx items.size 0 lo:Nat):Int)=0:=eq_of_beq q.1.1
  have q2:sIx items.size items.size hi - sIx items.size 0 lo=items.size:=eq_of_beq q.2
  exact hw ⟨by omega,by omega⟩
 show wpAny _ _ (if (((sIx items.size 0 lo:Nat):Int)==0&&(1:Int)==1&&(sIx items.size items.size hi - sIx items.size 0 lo)==items.size)=true then _ else _) _ _ s
 rw [if_neg hno,VI]
 first
  |exact wpAny_bind (m:=Builtin.Tuple.tupleExact _) (wpAny_newObj_type (wpAny_pure ⟨_,rfl,wpAny_pure h⟩) htake)
  |exact wpAny_bind (m:=Builtin.Tuple.tupleExact _) (wpAny_newObj_type (wpAny_bind (wpAny_pure (wpAny_pure ⟨_,rfl,wpAny_pure h⟩))) htake)
  |exact wpAny_bind (wpAny_bind (m:=Builtin.Tuple.tupleExact _) (wpAny_newObj_type (wpAny_pure (wpAny_pure ⟨_,rfl,wpAny_pure h⟩)) htake))
  |exact wpAny_bind (wpAny_bind (m:=Builtin.Tuple.tupleExact _) (wpAny_newObj_type (wpAny_pure ⟨_,rfl,wpAny_pure h⟩) htake))
end
end HT
namespace L2
open PySem PySem.Spec PyProof.Rows
abbrev TO:=St→Hp→(Option Int→Hp→Prop)→Prop
def PO (X:Cx) (e:Option Expr) (t:TO):Prop:=
 ∀(pins:List (Addr×Obj)) (s:Shared) (σ:St) (H:Hp) (Q:Option Int→Hp→Prop),Inv X pins σ H s→t σ H Q→
  wpAny (model X.prog X.w) X.A (evalPart e X.env) (fun u s'=>∃o H',Inv X pins σ H' s'∧IsPart u o∧Q o H') X.xe s
def VJ:TO:=fun _ H Q=>Q none H
def VL (t:TE):TO:=fun σ H Q=>t σ H fun x H1=>∃i,x=.int i∧Q (some i) H1
section
variable {X:Cx} {e:Expr} {te:TE} {lo hi:Option Expr} {tl th:TO} {pos p2:Pos}
theorem VM:PO X none VJ:=by
 intro pins s σ H Q I h
 rw [evalPart_none]
 exact wpAny_pure ⟨none,H,I,.none,h⟩
theorem VN (h:PE X e te):PO X (some e) (VL te):=by
 intro pins s σ H Q I hw
 rw [evalPart_some]
 refine Ax (h pins s σ H _ I hw) fun u s1 z84_=>?_
 obtain ⟨x,H1,I1,r1,q1⟩:=z84_
 obtain ⟨i,rfl,q⟩:=q1
 obtain ⟨t,rfl⟩:=r1
 exact ⟨some i,H1,I1,.int i t,q⟩
def SlR (X:Cx) (r:V→Option Int→Option Int→Hp→VK→Prop):Prop:=
 ∀(pins:List (Addr×Obj)) (s:Shared) (σ:St) (H:Hp) (x:V) (v vl vu:Value) (lo hi:Option Int) (sl:Addr) (Q:VK),Inv X pins σ H s→RelV x v→s.heap.IsSliceOf sl vl vu .none→IsPart vl lo→IsPart vu hi→r x lo hi H Q→
  ∃T id,typeLookup (.type T) "__getitem__"=pure (some (.builtin id))∧s.TypeIs v T∧wpAny (model X.prog X.w) X.A (getItem v (.ref sl)) (EP X pins σ Q) X.xe s
theorem SlR.or {r r':V→Option Int→Option Int→Hp→VK→Prop} (h:SlR X r) (h':SlR X r'):SlR X (fun x lo hi H Q=>r x lo hi H Q∨r' x lo hi H Q):=by
 intro pins s σ H x v vl vu lo hi sl Q I rx hs pl pu q
 rcases q with q |q
 ·exact h pins s σ H x v vl vu lo hi sl Q I rx hs pl pu q
 ·exact h' pins s σ H x v vl vu lo hi sl Q I rx hs pl pu q
def VO (r:V→Option Int→Option Int→Hp→VK→Prop) (te:TE) (tl th:TO):TE:=fun σ H Q=>te σ H fun x H1=>tl σ H1 fun l H2=>th σ H2 fun u H3=>r x l u H3 Q
theorem VP {r:V→Option Int→Option Int→Hp→VK→Prop} (hr:SlR X r) (he:PE X e te) (hl:PO X lo tl) (hu:PO X hi th):PE X (.Subscript e (.Slice lo hi none p2) pos) (VO r te tl th):=by
 intro pins s σ H Q I h
 refine Subscript_ (Ax (he pins s σ H _ I h) fun v s1 z85_=>?_)
 obtain ⟨x,H1,I1,r1,q1⟩:=z85_
 refine wpAny_Slice (Ax (hl pins s1 σ H1 _ I1 q1) ?_)
 rintro vl s2 ⟨l,H2,I2,pl,q2⟩
 refine Ax (hu pins s2 σ H2 _ I2 q2) fun vu s3 z87_=>?_
 obtain ⟨u,H3,I3,pu,q3⟩:=z87_
 rw [evalPart_none]
 refine wpAny_pure ?_
 have I4:Inv X pins σ H3 {s3 with heap:=s3.heap.push {cls:=.type "slice",data:=.fields #[vl,vu,.none]}}:=I3.kept (t':=s3.toks) fun b ob q=>AB _ q
 obtain ⟨T,id,hT,ht,hg⟩:=hr pins {s3 with heap:=s3.heap.push {cls:=.type "slice",data:=.fields #[vl,vu,.none]}} σ H3 x v vl vu l u s3.heap.objs.size Q I4 r1 (Heap.IsSliceOf.new ..) pl pu q3
 show wpAny (model X.prog X.w) X.A (subscriptTail e (.Slice lo hi none p2) v (.ref s3.heap.objs.size)) (EP X pins σ Q) X.xe {s3 with heap:=s3.heap.push {cls:=.type "slice",data:=.fields #[vl,vu,.none]}}
 exact tail_any (ops:=[.ref s3.heap.objs.size,v]) ht hT hg (by with_unfolding_all rfl)
def HN (xs:List V) (lo hi:Option Int):List V:=(xs.drop (HT.sIx xs.length 0 lo)).take (HT.sIx xs.length xs.length hi - HT.sIx xs.length 0 lo)
theorem VQ (xs:List V) (lo hi:Option Int):(HN xs lo hi).length≤xs.length:=by
 unfold HN
 rw [I0,List.length_drop]
 omega
def VR (K:PySem.W.Frag):V→Option Int→Option Int→Hp→VK→Prop:=fun x lo hi H Q=>∃a xs,x=.ref a∧SqT K H a xs∧
 ¬(HT.sIx xs.length 0 lo=0∧HT.sIx xs.length xs.length hi=xs.length)∧∀p,H p=none→Q (.ref p) (Ao H p (.tup (HN xs lo hi)))
theorem VS:SlR X (VR X.K):=by
 intro pins s σ H x v vl vu lo hi sl Q I rx hs pl pu h
 obtain ⟨a,xs,rfl,hx,hw,q⟩:=h
 cases rx
 obtain ⟨its,r,ht,hz⟩:=I.tuple hx
 have hlen:its.toArray.size=xs.length:=by rw [A9];exact r.length.symm
 refine ⟨"tuple",_,PyProof.Rows.slot_tuple_getitem.lookup,ht.typeIs,?_⟩
 refine HT.getItem_tuple_cut ht hs pl pu (by rw [hlen];exact hw) ?_ (by rw [hlen];exact hz)
 rw [hlen]
 refine ⟨.ref s.heap.objs.size,_,I.laid (t':=s.toks) (o:=.tup (HN xs lo hi)) (fun b ob q=>AB _ q) (AF _) ?_,rfl,q _ (I.hok.fresh (AF _))⟩
 exact ⟨Ca (VQ xs lo hi) hz,_,(r.drop (HT.sIx xs.length 0 lo)).take (HT.sIx xs.length xs.length hi - HT.sIx xs.length 0 lo),IsTup.new _ _,NoDict.new⟩
def VT (K:PySem.W.Frag):R2:=fun x y H Q=>∃a b xs ys,x=.ref a∧y=.ref b∧SqT K H a xs∧SqT K H b ys∧xs≠[]∧xs.length+ys.length≤sizeLine∧
 (ys=[]→Q (.ref a) H)∧(ys≠[]→∀p,H p=none→Q (.ref p) (Ao H p (.tup (xs++ys))))
theorem Vals.nil_iff {xs:List V} {us:List Value} (r:Vals xs us):us=[]↔xs=[]:=by
 cases r with
 |nil=>simp
 |cons _ _=>simp
theorem op_catT:OpR X (binaryOp .Add) (VT X.K):=by
 intro pins s σ H x y v u Q I rx ry h
 obtain ⟨a,b,xs,ys,rfl,rfl,ha,hb,hx,hz,q1,q2⟩:=h
 cases rx
 cases ry
 obtain ⟨its,r1,p1,_⟩:=I.tuple ha
 obtain ⟨its2,r2,p2,_⟩:=I.tuple hb
 refine HT.cat_tup p1 p2 (fun z=>hx (r1.nil_iff.mp z)) (fun z=>⟨.ref a,H,I,rfl,q1 (r2.nil_iff.mp z)⟩) (fun z=>?_) (by rw [←r1.length,←r2.length];exact hz)
 refine ⟨.ref s.heap.objs.size,_,I.laid (t':=s.toks) (o:=.tup (xs++ys)) (fun b ob q=>AB _ q) (AF _) ?_,rfl,q2 (fun w=>z (r2.nil_iff.mpr w)) _ (I.hok.fresh (AF _))⟩
 exact ⟨by rw [FQ];exact hz,_,r1.append r2,IsTup.new _ _,NoDict.new⟩
end
def DZ (n:Nat) (i:Int):Option Nat:=if 0≤i then (if i<n then some i.toNat else none) else if -(n:Int)≤i then some (i+n).toNat else none
def Dx {α:Type} (xs:List α) (i:Int):Option α:=(DZ xs.length i).bind fun j=>xs[j]?
theorem PM {n:Nat} {i:Int} {j:Nat} (h:DZ n i=some j):seqIndex? i n=some j∧j<n∧-(n:Int)≤i∧i<n:=by
 unfold DZ at h
 by_cases h0:0≤i
 ·rw [if_pos h0] at h
  by_cases h1:i<n
  ·rw [if_pos h1] at h
   have e:i.toNat=j:=Option.some.inj h
   exact ⟨by rw [seqIndex_of h0 h1,e],by omega,by omega,h1⟩
  ·rw [if_neg h1] at h;cases h
 ·rw [if_neg h0] at h
  by_cases h1:-(n:Int)≤i
  ·rw [if_pos h1] at h
   have e:(i+n).toNat=j:=Option.some.inj h
   exact ⟨by rw [seqIndex_neg (by omega) h1,e],by omega,h1,by omega⟩
  ·rw [if_neg h1] at h;cases h
theorem PN {α:Type} {xs:List α} {i:Int} {v:α} (h:Dx xs i=some v):∃j,seqIndex? i xs.length=some j∧xs[j]?=some v∧j<xs.length∧-(xs.length:Int)≤i∧i<xs.length:=by
 unfold Dx at h
 cases e:DZ xs.length i with
 |none=>rw [e] at h;cases h
 |some j=>
  rw [e] at h
  obtain ⟨h1,h2,h3,h4⟩:=PM e
  exact ⟨j,h1,h,h2,h3,h4⟩
def PP (b:Expr):Prop:=∀o i,subscripted b false o i=operate [o,i] (getItem o i)
def IxR (X:Cx) (r:R2):Prop:=
 ∀(value slice:Expr) (pins:List (Addr×Obj)) (s:Shared) (σ:St) (H:Hp) (x y:V) (v u:Value) (Q:VK),Inv X pins σ H s→RelV x v→RelV y u→r x y H Q→
  subscripted slice false v u=operate [v,u] (getItem v u)→wpAny (model X.prog X.w) X.A (subscriptTail value slice v u) (EP X pins σ Q) X.xe s
def M9 (X:Cx) (id:String) (r:V→List V→Hp→VK→Prop):Prop:=
 ∀(pins:List (Addr×Obj)) (s:Shared) (σ:St) (H:Hp) (x:V) (xs:List V) (v:Value) (us:List Value) (Q:VK),Inv X pins σ H s→RelV x v→Vals xs us→r x xs H Q→
  wpAny (model X.prog X.w) X.A (call (.builtin id) (v::us)) (EP X pins σ Q) X.xe s
section
variable {X:Cx} {a b:Expr} {ta tb:TE} {pos:Pos}
theorem IxR.or {r r':R2} (h:IxR X r) (h':IxR X r'):IxR X (fun x y H Q=>r x y H Q∨r' x y H Q):=by
 intro value slice pins s σ H x y v u Q I rx ry q hs
 rcases q with q |q
 ·exact h value slice pins s σ H x y v u Q I rx ry q hs
 ·exact h' value slice pins s σ H x y v u Q I rx ry q hs
theorem VU {r:R2} (hr:IxR X r) (ha:PE X a ta) (hb:PE X b tb) (hs:PP b):PE X (.Subscript a b pos) (KA r ta tb):=by
 intro pins s σ H Q I h
 exact Subscript_ (M0 ha hb I h fun v u s2 x y H2 I2 rx ry q=>hr a b pins s2 σ H2 x y v u Q I2 rx ry q (hs _ _))
def VV (K:PySem.W.Frag):R2:=fun x y H Q=>∃p xs i v,x=.ref p∧y=.int i∧SqL K H p xs∧Dx xs i=some v∧Q v H
def VW (K:PySem.W.Frag):R2:=fun x y H Q=>∃p xs i v,x=.ref p∧y=.int i∧SqT K H p xs∧Dx xs i=some v∧Q v H
theorem ix_list:IxR X (VV X.K):=by
 intro value slice pins s σ H x y v u Q I rx ry h hs
 obtain ⟨p,xs,i,z,rfl,rfl,hq,he,q⟩:=h
 cases rx
 obtain ⟨t,rfl⟩:=ry
 obtain ⟨its,r,pl,hz⟩:=I.list hq
 obtain ⟨j,h1,h2,h3,h4,h5⟩:=PN he
 obtain ⟨w,ew,rw'⟩:=r.get h2
 have hl:=r.length
 have hn:=HM
 have A1:EP X pins σ Q w s:=⟨z,H,I,rw',q⟩
 by_cases h0:0≤i
 ·have hj:i.toNat=j:=by
   rw [seqIndex_of h0 h5] at h1
   exact Option.some.inj h1
  exact item_listR pl.isList h0 (by omega) (by rw [hj];simpa using ew) A1 hs
 ·have hj:(i+(its.toArray.size:Int)).toNat=j:=by
   rw [seqIndex_neg (by omega) h4] at h1
   rw [A9,←hl]
   exact Option.some.inj h1
  exact subscriptTail_builtinR (x:=w) pl.isList.typeIs slot_list_getitem.lookup
   (wpAny_getItem_list_neg (Q:=fun r s'=>r=w∧EP X pins σ Q r s') pl.isList (by omega) (by rw [A9]<;>omega) (by omega) (by rw [hj];simpa using ew) ⟨rfl,A1⟩) hs
theorem ix_tup:IxR X (VW X.K):=by
 intro value slice pins s σ H x y v u Q I rx ry h hs
 obtain ⟨p,xs,i,z,rfl,rfl,hq,he,q⟩:=h
 cases rx
 obtain ⟨t,rfl⟩:=ry
 obtain ⟨its,r,pl,hz⟩:=I.tuple hq
 obtain ⟨j,h1,h2,h3,h4,h5⟩:=PN he
 obtain ⟨w,ew,rw'⟩:=r.get h2
 have hl:=r.length
 have hn:=HM
 have A1:EP X pins σ Q w s:=⟨z,H,I,rw',q⟩
 exact subscriptTail_builtinR (x:=w) pl.typeIs slot_tuple_getitem.lookup
  (getItem_tuple (j:=j) (Q:=fun r s'=>r=w∧EP X pins σ Q r s') pl (by omega) (by omega) (by rw [A9,←hl];exact h1) (by simpa using ew) ⟨rfl,A1⟩) hs
theorem VX (its:List Value) (n j:Nat) (u:Value):Obj.mapSeq (·.setIfInBounds j u) {cls:=.type "list",data:=.seq its.toArray n}={cls:=.type "list",data:=.seq (its.set j u).toArray n}:=by
 simp [Obj.mapSeq]
theorem Inv.lst {pins:List (Addr×Obj)} {σ:St} {H:Hp} {s:Shared} {p:Addr} {xs:List V} (I:Inv X pins σ H s) (h:H p=some (.lst xs)):
 ∃(its:List Value) (n:Nat),Vals xs its∧s.heap.get? p=some {cls:=.type "list",data:=.seq its.toArray n}∧xs.length≤sizeLine:=by
 obtain ⟨z,its,n,r,e⟩:=I.hok p _ h
 exact ⟨its,n,r,e,z⟩
theorem Inv.lstUpd {pins:List (Addr×Obj)} {σ:St} {H:Hp} {s:Shared} {p:Addr} {xs ys:List V} {its its':List Value} {n n':Nat} {f:Obj→Obj} (I:Inv X pins σ H s) (h:H p=some (.lst xs))
 (ho:s.heap.get? p=some {cls:=.type "list",data:=.seq its.toArray n}) (hf:f {cls:=.type "list",data:=.seq its.toArray n}={cls:=.type "list",data:=.seq its'.toArray n'}) (r:Vals ys its') (hz:ys.length≤sizeLine) (t:Nat):
 Inv X pins σ (Ao H p (.lst ys)) {s with heap:=s.heap.update p f,toks:=t}:=by
 have e:(s.heap.update p f).get? p=some {cls:=.type "list",data:=.seq its'.toArray n'}:=by
  rw [Fp f ho (by rw [hf]<;>rfl),hf]
 refine I.write (x:=p) (e:=p) (by rw [h];trivial) (.inl rfl) (fun b u hb q=>(IY _ _ (Ne.symm hb)).trans q) ⟨_,e⟩ ?_
 exact ⟨hz,its',n',r,e⟩
def VY:V→V→V→Hp→(Hp→Prop)→Prop:=fun o i v H Q=>∃p xs k j,o=.ref p∧i=.int k∧H p=some (.lst xs)∧DZ xs.length k=some j∧Q (Ao H p (.lst (xs.set j v)))
theorem VZ:Pk X VY:=by
 intro pins s σ H o i v ov iv u Q I ro ri rv h
 obtain ⟨p,xs,k,j,rfl,rfl,hp,hj,q⟩:=h
 cases ro
 obtain ⟨t,rfl⟩:=ri
 obtain ⟨its,n,r,ho,hz⟩:=I.lst hp
 obtain ⟨h1,h2,h3,h4⟩:=PM hj
 have hl:=r.length
 have hn:=HM
 have I':Inv X pins σ (Ao H p (.lst (xs.set j v))) {s with heap:=s.heap.update p (Obj.mapSeq (·.setIfInBounds j u))}:=
  I.lstUpd hp ho (VX its n j u) (r.set rv j) (by rw [List.length_set];exact hz) s.toks
 by_cases h0:0≤k
 ·have hk:k.toNat=j:=by
   rw [seqIndex_of h0 h4] at h1
   exact Option.some.inj h1
  exact PySem.W.ki_setAt ho h0 (by omega) (by rw [A9,←hl];exact h4) (by rw [hk];exact ⟨_,I',q⟩)
 ·have hk:(k+(its.toArray.size:Int)).toNat=j:=by
   rw [seqIndex_neg (by omega) h3] at h1
   rw [A9,←hl]
   exact Option.some.inj h1
  exact PySem.W.ki_setBack ho (by omega) (by rw [A9,←hl];exact h3) (by omega) (by rw [hk];exact ⟨_,I',q⟩)
def D0:V→Bool
 |.non=>true
 |.bl _=>true
 |.int _=>true
 |.str _=>true
 |_=>false
def Ei:V→V→Bool
 |.non,.non=>true
 |.bl a,.bl b=>a==b
 |.bl a,.int b=>(if a then 1 else 0)==b
 |.int a,.bl b=>a==(if b then 1 else 0)
 |.int a,.int b=>a==b
 |.str a,.str b=>a==b
 |_,_=>false
theorem V0 {A:Around} {s:Shared} {y x:V} {u v:Value} (ry:RelV y u) (rx:RelV x v) (fy:D0 y=true) (fx:D0 x=true):SeqAt.EqAt A s u v (Ei y x):=by
 cases y with
 |non=>
  cases ry
  cases x with
  |non=>cases rx;exact SeqAt.EqAt.same _
  |bl b=>cases rx;exact SeqAt.EqAt.none_bool b
  |int b=>obtain ⟨t,rfl⟩:=rx;exact SeqAt.EqAt.none_int b t
  |str b=>obtain ⟨t,rfl⟩:=rx;exact SeqAt.EqAt.none_str b t
  |_=>exact absurd (show false=true from fx) BL
 |bl a=>
  cases ry
  cases x with
  |non=>cases rx;exact SeqAt.EqAt.bool_none a
  |bl b=>cases rx;exact SeqAt.EqAt.bool_bool a b
  |int b=>obtain ⟨t,rfl⟩:=rx;exact SeqAt.EqAt.bool_int a b t
  |str b=>obtain ⟨t,rfl⟩:=rx;exact SeqAt.EqAt.bool_str a b t
  |_=>exact absurd (show false=true from fx) BL
 |int a=>
  obtain ⟨t',rfl⟩:=ry
  cases x with
  |non=>cases rx;exact SeqAt.EqAt.int_none a t'
  |bl b=>cases rx;exact SeqAt.EqAt.int_bool a t' b
  |int b=>obtain ⟨t,rfl⟩:=rx;exact SeqAt.EqAt.int_int a t' b t
  |str b=>obtain ⟨t,rfl⟩:=rx;exact SeqAt.EqAt.int_str a t' b t
  |_=>exact absurd (show false=true from fx) BL
 |str a=>
  obtain ⟨t',rfl⟩:=ry
  cases x with
  |non=>cases rx;exact SeqAt.EqAt.str_none a t'
  |bl b=>cases rx;exact SeqAt.EqAt.str_bool a t' b
  |int b=>obtain ⟨t,rfl⟩:=rx;exact SeqAt.EqAt.str_int a t' b t
  |str b=>obtain ⟨t,rfl⟩:=rx;exact SeqAt.EqAt.str_str a t' b t
  |_=>exact absurd (show false=true from fx) BL
 |_=>exact absurd (show false=true from fy) BL
def Dy (x:V) (u:Value):Bool:=match u with
 |.none=>Ei .non x
 |.bool b=>Ei (.bl b) x
 |.int i _=>Ei (.int i) x
 |.str z _=>Ei (.str z) x
 |_=>false
theorem KI {x y:V} {u:Value} (r:RelV y u) (f:D0 y=true):Dy x u=Ei y x:=by
 cases y with
 |non=>cases r;rfl
 |bl b=>cases r;rfl
 |int i=>obtain ⟨t,rfl⟩:=r;rfl
 |str z=>obtain ⟨t,rfl⟩:=r;rfl
 |_=>exact absurd (show false=true from f) BL
theorem Na {x:V}:∀{xs:List V} {us:List Value},Vals xs us→xs.all D0=true→us.any (Dy x)=xs.any fun y=>Ei y x
 |_,_,.nil,_=>rfl
 |y::xs,u::us,.cons r t,f=>by
  rw [List.all_cons,CP] at f
  rw [List.any_cons,List.any_cons,KI r f.1,Na t f.2]
theorem Ji {A:Around} {s:Shared} {x:V} {v:Value} (rx:RelV x v) (fx:D0 x=true):∀{xs:List V} {us:List Value},Vals xs us→xs.all D0=true→∀u∈us,SeqAt.EqAt A s u v (Dy x u)
 |_,_,.nil,_=>fun u hu=>by cases hu
 |y::xs,u::us,.cons r t,f=>fun u' hu=>by
  rw [List.all_cons,CP] at f
  rcases qa4.mp hu with rfl |hu
  ·rw [KI r f.1];exact V0 r rx f.1 fx
  ·exact Ji rx fx t f.2 u' hu
def HP (x:V) (xs:List V):Bool:=xs.any fun y=>Ei y x
def PQ (K:PySem.W.Frag) (neg:Bool):R2:=fun x y H Q=>∃p xs,y=.ref p∧(SqL K H p xs∨SqT K H p xs)∧D0 x=true∧xs.all D0=true∧Q (.bl (if neg then !HP x xs else HP x xs)) H
theorem V1:OpR X (compareOp .In) (PQ X.K false):=by
 intro pins s σ H x y v u Q I rx ry h
 obtain ⟨p,xs,rfl,hq,fx,fs,q⟩:=h
 cases ry
 rcases hq with hq |hq
 ·obtain ⟨its,r,pl,hz⟩:=I.list hq
  refine SeqAt.in_listAt (Dy x) pl.isList (fun w hw=>Ji rx fx r fs w (by simpa using hw)) ⟨.bl _,H,I,rfl,?_⟩
  rw [show its.toArray.any (Dy x)=its.any (Dy x) by simp,Na r fs]
  exact q
 ·obtain ⟨its,r,pl,hz⟩:=I.tuple hq
  refine SeqAt.in_tupleAt (Dy x) pl (fun w hw=>Ji rx fx r fs w (by simpa using hw)) ⟨.bl _,H,I,rfl,?_⟩
  rw [show its.toArray.any (Dy x)=its.any (Dy x) by simp,Na r fs]
  exact q
theorem V2:CQ X (.builtin "len") (fun xs H Q=>∃p ys,xs=[.ref p]∧(SqL X.K H p ys∨SqT X.K H p ys)∧Q (.int ys.length) H):=by
 intro pins s σ H xs us Q I r h
 obtain ⟨p,ys,rfl,hq,q⟩:=h
 obtain ⟨u,rfl,rx⟩:=DY r
 cases rx
 have hn:=HM
 rcases hq with hq |hq
 ·obtain ⟨its,r',pl,hz⟩:=I.list hq
  have hlen:=r'.length
  exact Calls.call_len_list pl.isList (by simp only [A9]<;>omega) ⟨.int ys.length,H,I.tok _,⟨s.toks+1,by rw [A9,hlen]⟩,q⟩
 ·obtain ⟨its,r',pl,hz⟩:=I.tuple hq
  have hlen:=r'.length
  exact len_tuple pl (by simp only [A9]<;>omega) ⟨.int ys.length,H,I.tok _,⟨s.toks+1,by rw [A9,hlen]⟩,q⟩
theorem V3:CQ X (.type "list") (fun xs H Q=>∃p ys,xs=[.ref p]∧(SqL X.K H p ys∨SqT X.K H p ys)∧∀l,H l=none→Q (.ref l) (Ao H l (.lst ys))):=by
 intro pins s σ H xs us Q I r h
 obtain ⟨p,ys,rfl,hq,q⟩:=h
 obtain ⟨u,rfl,rx⟩:=DY r
 cases rx
 have A1:∀(its:List Value),Vals ys its→ys.length≤sizeLine→∀(h':Heap) (c':Nat),(∀b o',s.heap.get? b=some o'→h'.get? b=some o')→
  h'.get? s.heap.objs.size=some {cls:=.type "list",dict:=none,data:=.seq its.toArray c',slots:=#[]}→EP X pins σ Q (.ref s.heap.objs.size) {s with heap:=h'}:=fun its r' hz h' c' kp e=>
  ⟨.ref s.heap.objs.size,_,I.laid (t':=s.toks) kp (AF _) (show ObjOk X.prog X.w _ h' _ (.lst ys) from ⟨hz,its,c',r',e⟩),rfl,q _ (I.hok.fresh (AF _))⟩
 rcases hq with hq |hq
 ·obtain ⟨its,r',pl,hz⟩:=I.list hq
  have hlen:=r'.length
  obtain ⟨o,ho,hc,n,hd⟩:=pl.isList
  exact call_list_seq p (.inl rfl) ho hc hd (fun h' c' kp e=>A1 its r' hz h' c' kp e) (by simp only [A9]<;>omega)
 ·obtain ⟨its,r',pl,hz⟩:=I.tuple hq
  have hlen:=r'.length
  obtain ⟨o,ho,hc,n,hd⟩:=pl
  exact call_list_seq p (.inr rfl) ho hc hd (fun h' c' kp e=>A1 its r' hz h' c' kp e) (by simp only [A9]<;>omega)
theorem V4:CQ X (.type "tuple") (fun xs H Q=>∃p ys,xs=[.ref p]∧((SqL X.K H p ys∧∀l,H l=none→Q (.ref l) (Ao H l (.tup ys)))∨(SqT X.K H p ys∧Q (.ref p) H))):=by
 intro pins s σ H xs us Q I r h
 obtain ⟨p,ys,rfl,h⟩:=h
 obtain ⟨u,rfl,rx⟩:=DY r
 cases rx
 rcases h with ⟨hq,q⟩ |⟨hq,q⟩
 ·obtain ⟨its,r',pl,hz⟩:=I.list hq
  have hlen:=r'.length
  refine call_tuple_list pl.isList (fun h' kp=>?_) (by simp only [A9]<;>omega)
  have I1:Inv X pins σ H {s with heap:=h'}:=I.kept (t':=s.toks) kp
  have I2:Inv X pins σ (Ao H h'.objs.size (.tup ys)) {s with heap:=h'.push {cls:=.type "tuple",data:=.seq its.toArray}}:=
   I1.laid (t':=s.toks) (fun b o e=>AB _ e) (AF _) (show ObjOk X.prog X.w _ _ _ (.tup ys) from ⟨hz,its,r',IsTup.new _ _,NoDict.new⟩)
  exact ⟨.ref h'.objs.size,_,I2,rfl,q _ (I1.hok.fresh (AF _))⟩
 ·obtain ⟨its,r',pl,hz⟩:=I.tuple hq
  exact call_tuple_same pl ⟨.ref p,H,I,rfl,q⟩
def PR (K:PySem.W.Frag) (T:String) (x:V) (H:Hp):Prop:=match x with
 |.str _=>T="str"
 |.int _=>T="int"
 |.ref p=>(T="list"∧∃xs,SqL K H p xs)∨(T="tuple"∧∃o,K.lookup p=some o∧o.cls=.type "tuple"∧o.dict=none)
 |_=>False
theorem PU {pins:List (Addr×Obj)} {σ:St} {H:Hp} {s:Shared} {T:String} {x:V} {v:Value} (I:Inv X pins σ H s) (r:RelV x v) (ty:PR X.K T x H):
 s.TypeIs v T∧∀a,v=.ref a→∃ob,s.heap.get? a=some ob∧ob.dict=none:=by
 cases x with
 |str z=>
  obtain ⟨t,rfl⟩:=r
  cases (show T="str" from ty)
  exact ⟨typeIs_str s z t,fun _ e=>nomatch e⟩
 |int i=>
  obtain ⟨t,rfl⟩:=r
  cases (show T="int" from ty)
  exact ⟨typeIs_int s i t,fun _ e=>nomatch e⟩
 |ref p=>
  cases r
  rcases ty with ⟨rfl,xs,hq⟩ |⟨rfl,o,hk,hc,hd⟩
  ·obtain ⟨its,_,pl,_⟩:=I.list hq
   refine ⟨pl.isList.typeIs,fun a e=>?_⟩
   cases e
   obtain ⟨o,n,e,c,hd,_⟩:=pl
   exact ⟨o,e,hd⟩
  ·refine ⟨⟨o,I.kIn p o hk,hc⟩,fun a e=>?_⟩
   cases e
   exact ⟨o,I.kIn _ o hk,hd⟩
 |_=>exact False.elim ty
def V5 (K:PySem.W.Frag) (T:String) (r:V→List V→Hp→VK→Prop) (to:TE) (t:TA):TE:=fun σ H Q=>to σ H fun x H1=>PR K T x H1∧t σ H1 fun xs H2=>r x xs H2 Q
variable {o e:Expr} {es:List Expr} {to:TE} {t:TA} {name:Str} {apos cpos:Pos} {T id:String} {r:V→List V→Hp→VK→Prop}
theorem V6 (pa:PlainAttrs T) (slot:Slot T name id) (hty:typeOf (.builtin id)=pure (.type "method_descriptor")) (hm:M9 X id r) (ho:PE X o to) (ha:PA X (e::es) t)
 (hbase:attributeBase o name X.env (eval o X.env)=eval o X.env:=by rfl)
 (hfew:((backTo cpos (starEach (e::es) X.env)).all (fun x=>!x.1)&&(backToKw cpos (keywordEach [] X.env)).all (fun x=>x.1.isSome)
  &&decide ((e::es).length+([]:List Keyword).length+(if ([]:List Keyword).isEmpty then 0 else 1)<30))=true:=by rfl)
 (hline:(apos.endLine==cpos.line)=true:=by rfl) (hs:starEach (e::es) X.env=(false,eval e X.env)::starEach es X.env:=by rfl) (hplain:(backTo cpos (starEach es X.env)).any (·.1)=false:=by rfl):
 PE X (.Call (.Attribute o name apos) (e::es) [] cpos) (V5 X.K T r to t):=by
 intro pins s σ H Q I h
 refine wpAny_Call_method_late hbase hfew hline rfl (Ax (ho pins s σ H _ I h) fun v s1 z89_=>?_)
 obtain ⟨x,H1,I1,r1,ty,q1⟩:=z89_
 obtain ⟨h1,h2⟩:=PU I1 r1 ty
 refine ⟨T,id,pa,slot,hty,h1,h2,?_⟩
 have hA:=ha cpos pins s1 σ H1 _ I1 q1
 rw [hs] at hA ⊢
 refine Calls.callWith_builtin (by show (false||(backTo cpos (starEach es X.env)).any (·.1))=false;rw [hplain]<;>rfl) (Calls.evalArgs_plain ?_)
 exact Ax hA fun us s2 z90_=>by obtain ⟨vs,H2,I2,r2,q2⟩:=z90_;exact (hm pins s2 σ H2 x vs v us Q I2 r1 r2 q2)
end
def V7 (X:Cx) (id:String) (r:V→List V→Hp→VK→Prop):Prop:=
 ∀(pins:List (Addr×Obj)) (s:Shared) (σ:St) (H:Hp) (x:V) (xs:List V) (v:Value) (us:List Value) (Q:VK),Inv X pins σ H s→RelV x v→Vals xs us→r x xs H Q→
  wpAny (model X.prog X.w) X.A (call (.builtin id) (v::us)) (EP X pins σ Q) X.xe s
theorem Vals.one {x:V} {us:List Value} (h:Vals [x] us):∃u,us=[u]∧RelV x u:=by
 cases h with
 |cons r t=>cases t;exact ⟨_,rfl,r⟩
theorem Vals.reverse {xs:List V} {us:List Value} (h:Vals xs us):Vals xs.reverse us.reverse:=by
 induction h with
 |nil=>exact .nil
 |cons r t ih=>rw [List.reverse_cons,List.reverse_cons];exact Vals.append ih (.cons r .nil)
theorem Vals.rep {xs:List V} {us:List Value} (h:Vals xs us):∀k:Nat,Vals (List.replicate k xs).flatten (List.replicate k us).flatten
 |0=>.nil
 |k+1=>by
  rw [FP,FP,Gp,Gp]
  exact Vals.append h (Vals.rep h k)
theorem KJ (its:List Value):∀(k:Nat) (acc:List Value),
 List.foldl (fun x1 x2=>x1++x2) acc.toArray (List.replicate k its.toArray)=(acc++(List.replicate k its).flatten).toArray
 |0,acc=>by simp
 |k+1,acc=>by
  have e:acc.toArray++its.toArray=(acc++its).toArray:=by simp
  have e2:(acc++its)++(List.replicate k its).flatten=acc++(List.replicate (k+1) its).flatten:=by
   rw [FP,Gp,Kk]
  rw [←e2,←KJ its k (acc++its),←e,FP,List.foldl_cons]
section
variable {X:Cx} {pins:List (Addr×Obj)} {σ:St} {H:Hp} {s:Shared} {l b:Addr} {xs ys zs:List V}
theorem Inv.lset {its its':List Value} {n:Nat} {f:Array Value→Array Value} {t':Nat} (I:Inv X pins σ H s) (hH:H l=some (.lst xs))
 (e:s.heap.get? l=some {cls:=.type "list",data:=.seq its.toArray n}) (hf:f its.toArray=its'.toArray) (hv:Vals ys its') (hz:ys.length≤sizeLine):
 Inv X pins σ (Ao H l (.lst ys)) {s with heap:=s.heap.update l (Obj.mapSeq f),toks:=t'}:=by
 have q:=PySem.IsL.update e f
 rw [hf] at q
 refine I.write (x:=l) (e:=l) (by rw [hH];exact trivial) (.inl rfl) (fun b' u hb hu=>(IY s.heap (Obj.mapSeq f) (Ne.symm hb)).trans hu) ⟨_,q⟩ ?_
 exact ⟨hz,its',_,hv,q⟩
theorem Inv.lnew {its:List Value} {t':Nat} (I:Inv X pins σ H s) (hv:Vals ys its) (hz:ys.length≤sizeLine):
 Inv X pins σ (Ao H s.heap.objs.size (.lst ys)) {s with heap:=s.heap.push {cls:=.type "list",data:=.seq its.toArray},toks:=t'}:=
 I.laid (fun _ _ q=>AB _ q) (AF _) ⟨hz,its,0,hv,A7 _ rfl⟩
theorem Inv.fresh (I:Inv X pins σ H s):H s.heap.objs.size=none:=I.hok.fresh (AF _)
theorem Inv.lstM (I:Inv X pins σ H s) (hH:H l=some (.lst xs)):xs.length≤sizeLine∧∃(its:List Value) (n:Nat),Vals xs its∧xs.length=its.length∧s.heap.get? l=some {cls:=.type "list",data:=.seq its.toArray n}:=by
 obtain ⟨z,its,n,r,e⟩:=I.hok l _ hH
 exact ⟨z,its,n,r,r.length,e⟩
theorem V8 {n:Nat} (h:n≤sizeLine):Builtin.List.listTooLong n=false:=by
 unfold Builtin.List.listTooLong
 exact decide_eq_false (by omega)
end
section
variable {X:Cx}
def V9:V→List V→Hp→VK→Prop:=fun x vs H Q=>∃l xs y,x=.ref l∧vs=[y]∧H l=some (.lst xs)∧xs.length<sizeLine∧Q .non (Ao H l (.lst (xs++[y])))
theorem Wa:V7 X "list.append" V9:=by
 intro pins s σ H x vs v us Q I rx rv h
 obtain ⟨l,xs,y,rfl,rfl,hH,hz,q⟩:=h
 cases rx
 obtain ⟨u,rfl,ru⟩:=rv.one
 obtain ⟨z,its,n,r,hl,e⟩:=I.lstM hH
 refine call_meets F.slot_list_append ⟨_,e,rfl⟩ F.entry_list_append (F.args_list_append_2 _ _) (PySem.list_append l its.toArray n u (by rw [A9];omega)) ⟨e,?_⟩
 refine ⟨.non,_,I.lset (its':=its++[u]) hH e (by simp) (r.append (.cons ru .nil)) ?_,rfl,q⟩
 rw [FQ,List.length_singleton]
 omega
def Wb:R2:=fun x y H Q=>∃l b xs zs,x=.ref l∧y=.ref b∧H l=some (.lst xs)∧H b=some (.lst zs)∧xs.length+zs.length≤sizeLine∧∀p,H p=none→Q (.ref p) (Ao H p (.lst (xs++zs)))
theorem op_cat:OpR X (binaryOp .Add) Wb:=by
 intro pins s σ H x y v u Q I rx ry h
 obtain ⟨l,b,xs,zs,rfl,rfl,hH,hB,hz,q⟩:=h
 cases rx
 cases ry
 obtain ⟨z,its,n,r,hl,e⟩:=I.lstM hH
 obtain ⟨z2,its2,n2,r2,hl2,e2⟩:=I.lstM hB
 refine PySem.P.add_list e e2 ?_ (by rw [A9,A9];omega)
 have ea:its.toArray++its2.toArray=(its++its2).toArray:=by simp
 rw [ea]
 exact ⟨.ref _,_,I.lnew (t':=s.toks) (r.append r2) (by rw [FQ];omega),rfl,q _ I.fresh⟩
def Wc:R2:=fun x y H Q=>∃l k xs,x=.ref l∧y=.int k∧H l=some (.lst xs)∧-(2^63)≤k∧k<2^63∧xs.length*k.toNat≤sizeLine∧
 ∀p,H p=none→Q (.ref p) (Ao H p (.lst (List.replicate k.toNat xs).flatten))
theorem KL {α:Type} (xs:List α) (k:Nat):(List.replicate k xs).flatten.length=k*xs.length:=by
 induction k with
 |zero=>simp
 |succ k ih=>rw [FP,Gp,FQ,ih,Nat.succ_mul,Nat.add_comm]
theorem Wd:OpR X (binaryOp .Mult) Wc:=by
 intro pins s σ H x y v u Q I rx ry h
 obtain ⟨l,k,xs,rfl,rfl,hH,h1,h2,hz,q⟩:=h
 cases rx
 obtain ⟨t,rfl⟩:=ry
 obtain ⟨z,its,n,r,hl,e⟩:=I.lstM hH
 have hlen:its.toArray.size*k.toNat≤sizeLine:=by rw [A9,←hl];exact hz
 have hcap:¬its.toArray.size*k.toNat>(2^63 - 1) / 8:=by
  have:(sizeLine:Nat)≤(2^63 - 1) / 8:=by decide
  omega
 have hfit:¬(!Builtin.List.listFitsIndex k)=true:=by
  rw [fitsIndex_both h1 h2]
  exact BL
 have hlong:¬Builtin.List.listTooLong (its.toArray.size*k.toNat)=true:=by
  rw [V8 hlen]
  exact BL
 have hnew:List.foldl (fun x1 x2=>x1++x2) #[] (List.replicate (if its.toArray.isEmpty=true then 0 else k.toNat) its.toArray)=(List.replicate k.toNat its).flatten.toArray:=by
  have f0:∀m:Nat,List.foldl (fun x1 x2=>x1++x2) #[] (List.replicate m its.toArray)=(List.replicate m its).flatten.toArray:=fun m=>by
   have:=KJ its m []
   rw [Kr] at this
   exact this
  rw [f0]
  cases its with
  |nil=>simp
  |cons a r'=>rw [if_neg (by simp)]
 refine wpAny_binaryOp_repeat_ref (T:="list") (U:="int") (by decide) ⟨_,e,rfl⟩ (fun s'=>typeIs_int s' k t) noFill_list_mul F.fills_int_mul F.slot_int_rmul repeat_list F.slot_int_index.lookup
  (call_meets F.slot_int_rmul (typeIs_int s k t) F.entry_int_rmul (F.args_int_rmul_2 _ _) (int___rmul___int_list k t l its.toArray n)
   ⟨e,rfl,⟨_,e,rfl⟩,call_meets F.slot_list_mul ⟨_,e,rfl⟩ F.entry_list_mul (F.args_list_mul_2 _ _) (AutoListH.list___mul___list_int_3 l its.toArray n k t hfit hcap hlong) ⟨e,?_⟩⟩)
 rw [hnew]
 exact ⟨.ref _,_,I.lnew (t':=s.toks) (r.rep k.toNat) (by rw [KL,Nat.mul_comm];exact hz),rfl,q _ I.fresh⟩
end
section
variable {prog:Program} {w:World} {A:Around} {E:Value→Shared→Prop} {s:Shared}
end
section
variable {X:Cx}
end
end L2
namespace Att
open PySem PySem.W PySem.Calls PyProof.Rows
theorem Wf {P:Params} {h:Heap}:∀(ns:List Int) (vs:List Value),WellAll P h vs (ns.map WData.int)→IntsAre vs ns:=by
 intro ns
 induction ns with
 |nil=>
  intro vs w
  rw [Gu] at w
  cases w
  exact .nil
 |cons n ns ih=>
  intro vs w
  rw [Bu] at w
  cases w with
  |cons a b=>
   cases a
   exact .cons _ _ (ih _ b)
theorem Wg {l:OpenLaw} {n:Nat} (hn:l.most=some n) {P:Params} {h:Heap} {args:List WData} {vals:List Value}
 (hpre:l.row.toRowW.claim.pre args=true) (hwl:WellAll P h vals args):
 ∃a vs ns,vals=[Value.ref a]∧args=[WData.list (ns.map WData.int)]∧h.get? a=some {cls:=.type "list",data:=.seq vs.toArray}∧IntsAre vs ns∧ns.length≤n:=by
 have hsh:WShape.hasAll [] args [.list .int]=true:=(pre_splitW hpre).1
 have hc:l.pre.holds [] {args:=args}=true:=(pre_splitW hpre).2
 obtain ⟨d,r,rfl,h1,h2⟩:=hasAllW_cons hsh
 obtain rfl:=hasAllW_nil h2
 obtain ⟨xs,rfl,h3⟩:=hasW_list h1
 obtain ⟨ns,rfl⟩:=items_int h3
 have hlen:ns.length≤n:=by
  unfold OpenLaw.pre at hc
  have h4:(WTm.not (.lt (.lit (.int (n:Int))) (.len (.arg 0)))).holds [] {args:=[.list (ns.map .int)]}=true:=by
   have h4:=(holds_andW hc).1
   rw [hn] at h4
   exact h4
  have h5:=condW_of h4 (w_not (w_lt w_lit (w_len_list (w_arg rfl))))
  rw [CA] at h5
  refine Ja fun q=>?_
  have q':(n:Int)<((ns.length:Nat):Int):=by omega
  first
   |(rw [decide_eq_true q'] at h5;exact absurd h5 (by decide))
   |(simp at h5;omega)
 cases hwl with
 |cons w1 w2=>
  cases w2
  cases w1 with
  |list ho hall=>exact ⟨_,_,ns,rfl,rfl,ho,Wf ns _ hall,hlen⟩
theorem Wh (l:OpenLaw) (args:List WData):l.row.toRowW.claim.post args (.bool true) args=true:=
 postW_of (r:=l.row.toRowW) (X:=(true==true))
  (show WShape.has [] (.bool true) .bool=true by first |rfl |decide |simp [WShape.has,WShape.arms,WShape.armsAll])
  (show (WTm.eq .res (.lit (.bool true))).value [] {args:=args,res:=some (.bool true),after:=args}=some (.bool (true==true)) from w_eq_bool (w_res rfl) w_lit) rfl
section
variable {prog:Program} {w:World} {A:Around} {E:Value→Shared→Prop} {s:Shared} {K:Frag}
end
end Att
namespace L2
open PySem PySem.Spec PyProof.Rows
theorem vals_ints:∀{vs:List Value} {ns:List Int},IntsAre vs ns→Vals (ns.map V.int) vs
 |_,_,.nil=>.nil
 |_,_,.cons n t h=>.cons ⟨t,rfl⟩ (vals_ints h)
def defArgs (s:Stmt):Arguments:=match s with
 |.FunctionDef _ a _ _ _ _ _ _ _ _=>a
 |_=>{posonlyargs:=[],args:=[],vararg:=none,kwonlyargs:=[],kw_defaults:=[],kwarg:=none,defaults:=[]}
def defBody (s:Stmt):List Stmt:=match s with
 |.FunctionDef _ _ b _ _ _ _ _ _ _=>b
 |_=>[]
def defScope (s:Stmt):Scope:=match s with
 |.FunctionDef _ _ _ _ _ _ sc _ _ _=>sc
 |_=>{kind:=.function,names:=[],isGenerator:=false,isCoroutine:=false}
abbrev PV:Eh:=fun _ _ _ _ _ _=>False
abbrev E0:XK:=fun _ _ _=>False
inductive PX (K:PySem.W.Frag) (x qual:Str) (st:Stmt) (f:Addr) (fd:FuncData):Prop where
 |mk (oc:Value) (od:Option Addr) (kV doc pm:Value) (an:Option Addr) (cdv ct:Value) (osl:Array (Option Value)) (f1:fd=PySem.W.fnOf x qual (defArgs st) (defBody st) (defScope st) .none kV doc pm an cdv ct) (f2:K.lookup f=some ⟨oc,od,.func fd,osl⟩) (f3:PySem.W.codeIn K cdv qual=true):PX K x qual st f fd
structure Fun (K:PySem.W.Frag) (x qual:Str) (st:Stmt) (f:Addr) (fd:FuncData):Prop where
 ex:PX K x qual st f fd
 kp:PySem.W.keepIn K (.ref f)=true
section
variable {P:Program} {w:World} {K:PySem.W.Frag} {mg:Str→Option Value} {base:Heap}
theorem Fun.binds {x qual:Str} {st:Stmt} {f:Addr} {fd:FuncData} {ps:List Str} (F:Fun K x qual st f fd)
 (h:∀(kV doc pm:Value) (an:Option Addr) (cdv ct:Value) (us:List Value),us.length=ps.length→bindArgs (PySem.W.fnOf x qual (defArgs st) (defBody st) (defScope st) .none kV doc pm an cdv ct) ⟨us,[]⟩=pure (ps.zip us)):Binds K fd ps []:=by
 obtain ⟨oc,od,kV,doc,pm,an,cdv,ct,osl,rfl,lk,hcd⟩:=F.ex
 exact .all (h kV doc pm an cdv ct)
theorem FX {x qual:Str} {st:Stmt} {f:Addr} {oc:Value} {od an:Option Addr} {osl:Array (Option Value)} {kV doc pm cdv ct:Value} (l:K.lookup f=some ⟨oc,od,.func (PySem.W.fnOf x qual (defArgs st) (defBody st) (defScope st) .none kV doc pm an cdv ct),osl⟩)
 (c:PySem.W.codeIn K cdv qual=true) (k:PySem.W.keepIn K (.ref f)=true):Fun K x qual st f (PySem.W.fnOf x qual (defArgs st) (defBody st) (defScope st) .none kV doc pm an cdv ct):=⟨⟨oc,od,kV,doc,pm,an,cdv,ct,osl,rfl,l,c⟩,k⟩
end
section
variable {X:Cx}
theorem pv (i:Nat) {x:Str} {pos:Pos} (hN:X.N[i]?=some x:=by rfl) (hv:Kv X.env.scope x:=by first |exact Or.inl rfl |exact Or.inr (Or.inl rfl) |exact Or.inr (Or.inr rfl)) (hd:(x==("__debug__":Str))=false:=by decide)
 (hcd:(x==("__classdict__":Str))=false:=by decide):PE X (.Name x pos) (MP i):=MQ hN hv hd hcd
end
end L2
namespace LS
open PySem PySem.Spec PyProof.Rows L2
inductive D where
 |non |bl (b:Bool) |int (i:Int) |str (x:Str) |tup (ds:List D) |loc (l:Nat) |scr (ns:List Int) |adr (a:Addr) |ty (n:String) |exc (n:Str) (fs:List (Str×Int)) |edic |glo (n:Str) |clo (a:Addr) (vs:List V) (ds:List D)
inductive Cell where
 |lst (ds:List D) |tab
abbrev HD:=List Cell
abbrev Aj:=List (Option D)
inductive Out (α:Type) where
 |ok (a:α) (h:HD) |err (C:Value) (fs:List (Str×D)) (h:HD) |stuck
def Out.bind {α β:Type} (o:Out α) (k:α→HD→Out β):Out β:=match o with
 |.ok a h=>k a h
 |.err C fs h=>.err C fs h
 |.stuck=>.stuck
@[simp] theorem Out.bind_ok {α β:Type} (a:α) (h:HD) (k:α→HD→Out β):(Out.ok a h).bind k=k a h:=rfl
@[simp] theorem Out.bind_err {α β:Type} (C:Value) (fs:List (Str×D)) (h:HD) (k:α→HD→Out β):(Out.err C fs h:Out α).bind k=.err C fs h:=rfl
@[simp] theorem Out.bind_stuck {α β:Type} (k:α→HD→Out β):(Out.stuck:Out α).bind k=.stuck:=rfl
def Nb:HO→Bool
 |.tup _=>true
 |.frz _ _=>true
 |.ext _=>true
 |.xd _=>true
 |_=>false
def Kp (H H':Hp):Prop:=∀b o,H b=some o→Nb o=true→H' b=some o
theorem Kp.refl (H:Hp):Kp H H:=fun _ _ e _=>e
theorem Kp.trans {H H1 H2:Hp} (a:Kp H H1) (b:Kp H1 H2):Kp H H2:=fun c o e i=>b c o (a c o e i) i
theorem Kp.new {H:Hp} {p:Addr} {o:HO} (h:H p=none):Kp H (Ao H p o):=fun b u e _=>by rw [Au (BE e h)];exact e
theorem Kp.set {H:Hp} {p:Addr} {o u:HO} (h:H p=some o) (i:Nb o=false):Kp H (Ao H p u):=fun b w e iw=>by
 rw [Au]
 ·exact e
 ·intro z
  rw [z,h] at e;cases e;rw [i] at iw;cases iw
def FzL (K:PySem.W.Frag) (H:Hp) (a:Addr) (xs:List V):Prop:=(∃o,H a=some (.frz o (.lst xs)))∨SqL K (fun _=>none) a xs
theorem Kp.fzL {K:PySem.W.Frag} {H H':Hp} {a:Addr} {xs:List V} (k:Kp H H') (h:FzL K H a xs):FzL K H' a xs:=by
 rcases h with ⟨o,h⟩ |h
 ·exact .inl ⟨o,k _ _ h rfl⟩
 ·exact .inr h
theorem FzL.sq {K:PySem.W.Frag} {H:Hp} {a:Addr} {xs:List V} (h:FzL K H a xs):SqL K H a xs:=by
 rcases h with ⟨o,h⟩ |(h |⟨o,h⟩) |h
 ·exact .inl (.inr ⟨o,h⟩)
 ·cases h
 ·cases h
 ·exact .inr h
def FY (C:Addr) (da:Option Addr) (a:Addr) (h:Heap):Prop:=∃o vs,h.get? a=some o∧o.cls=.ref C∧(∀d,da=some d→o.dict=some d)∧o.data=.fields vs
def Nd (a:Addr) (h:Heap):Prop:=a≠sysModules∧∃o ep,h.get? a=some o∧o.ExactDict∧o.data=.dict #[] ep
mutual
def DV (K:PySem.W.Frag) (m:List Addr) (H:Hp):D→V→Prop
 |.non,v=>v=.non
 |.bl b,v=>v=.bl b
 |.int i,v=>v=.int i
 |.str x,v=>v=.str x
 |.tup ds,v=>∃a vs,v=.ref a∧H a=some (.tup vs)∧DVs K m H ds vs
 |.loc l,v=>∃a,v=.ref a∧m[l]?=some a
 |.scr ns,v=>∃a,v=.ref a∧FzL K H a (ns.map V.int)
 |.adr a,v=>v=.ref a
 |.ty n,v=>v=.ty n
 |.exc n fs,v=>∃a C da,v=.ref a∧PySem.W.nsIn K mainGlobals n=some (some (.ref C))∧H a=some (.ext (FY C da a))∧∀f i,fs.lookup f=some i→∃d fv,da=some d∧H d=some (.xd fv)∧fv.lookup f=some (.int i)
 |.edic,v=>∃a,v=.ref a∧H a=some (.ext (Nd a))
 |.glo n,v=>∃a,v=.ref a∧PySem.W.nsIn K mainGlobals n=some (some (.ref a))
 |.clo a vs ds,v=>v=.ref a∧DVs K m H ds vs
def DVs (K:PySem.W.Frag) (m:List Addr) (H:Hp):List D→List V→Prop
 |[],vs=>vs=[]
 |d::ds,vs=>∃v r,vs=v::r∧DV K m H d v∧DVs K m H ds r
end
section
variable {K:PySem.W.Frag} {m m':List Addr} {H H':Hp}
theorem Jj {l:Nat} {a:Addr} (p:m <+:m') (h:m[l]?=some a):m'[l]?=some a:=by
 obtain ⟨t,rfl⟩:=p
 have hl:l<m.length:=(qa2.mp h).1
 rw [Fo hl];exact h
mutual
theorem DV.keep (p:m <+:m') (k:Kp H H'):∀{d:D} {v:V},DV K m H d v→DV K m' H' d v
 |.non,_,h=>by simpa [DV] using h
 |.bl _,_,h=>by simpa [DV] using h
 |.int _,_,h=>by simpa [DV] using h
 |.str _,_,h=>by simpa [DV] using h
 |.tup ds,_,h=>by
  simp only [DV] at h ⊢
  obtain ⟨a,vs,e,q,r⟩:=h
  exact ⟨a,vs,e,k _ _ q rfl,DVs.keep p k r⟩
 |.loc l,_,h=>by
  simp only [DV] at h ⊢
  obtain ⟨a,e,q⟩:=h
  exact ⟨a,e,Jj p q⟩
 |.scr ns,_,h=>by
  simp only [DV] at h ⊢
  obtain ⟨a,e,q⟩:=h
  exact ⟨a,e,k.fzL q⟩
 |.adr _,_,h=>by simpa [DV] using h
 |.ty _,_,h=>by simpa [DV] using h
 |.exc _ _,_,h=>by
  simp only [DV] at h ⊢
  obtain ⟨a,C,da,e,q,r,t⟩:=h
  exact ⟨a,C,da,e,q,k _ _ r rfl,fun f i z=>let ⟨d,fv,z1,z2,z3⟩:=t f i z;⟨d,fv,z1,k _ _ z2 rfl,z3⟩⟩
 |.edic,_,h=>by
  simp only [DV] at h ⊢
  obtain ⟨a,e,r⟩:=h
  exact ⟨a,e,k _ _ r rfl⟩
 |.glo _,_,h=>by simpa [DV] using h
 |.clo _ _ ds,_,h=>by
  simp only [DV] at h ⊢
  exact ⟨h.1,DVs.keep p k h.2⟩
theorem DVs.keep (p:m <+:m') (k:Kp H H'):∀{ds:List D} {vs:List V},DVs K m H ds vs→DVs K m' H' ds vs
 |[],_,h=>by simpa [DVs] using h
 |d::ds,_,h=>by
  simp only [DVs] at h ⊢
  obtain ⟨v,r,e,q,t⟩:=h
  exact ⟨v,r,e,DV.keep p k q,DVs.keep p k t⟩
end
theorem DVs.nil:DVs K m H [] []:=by simp [DVs]
theorem DVs.cons {d:D} {v:V} {ds:List D} {vs:List V} (h:DV K m H d v) (t:DVs K m H ds vs):DVs K m H (d::ds) (v::vs):=by
 simp only [DVs];exact ⟨v,vs,rfl,h,t⟩
theorem DVs.len:∀{ds:List D} {vs:List V},DVs K m H ds vs→ds.length=vs.length
 |[],_,h=>by simp only [DVs] at h;subst h;rfl
 |d::ds,_,h=>by
  simp only [DVs] at h
  obtain ⟨v,r,e,_,t⟩:=h
  subst e
  simp [DVs.len t]
theorem DVs.get:∀{ds:List D} {vs:List V} {i:Nat} {d:D},DVs K m H ds vs→ds[i]?=some d→∃v,vs[i]?=some v∧DV K m H d v
 |[],_,_,_,_,e=>by simp at e
 |d::ds,_,i,x,h,e=>by
  simp only [DVs] at h
  obtain ⟨v,r,rfl,q,t⟩:=h
  cases i with
  |zero=>simp at e;subst e;exact ⟨v,rfl,q⟩
  |succ i=>
   obtain ⟨w,h1,h2⟩:=DVs.get (i:=i) t (by simpa using e)
   exact ⟨w,by simpa using h1,h2⟩
theorem DVs.app:∀{ds es:List D} {vs ws:List V},DVs K m H ds vs→DVs K m H es ws→DVs K m H (ds++es) (vs++ws)
 |[],_,_,_,h,t=>by simp only [DVs] at h;subst h;exact t
 |d::ds,_,_,_,h,t=>by
  simp only [DVs] at h
  obtain ⟨v,r,rfl,q,u⟩:=h
  exact .cons q (DVs.app u t)
theorem DVs.set:∀{ds:List D} {vs:List V} {d:D} {v:V} (i:Nat),DVs K m H ds vs→DV K m H d v→DVs K m H (ds.set i d) (vs.set i v)
 |[],_,_,_,_,h,_=>by simp only [DVs] at h;subst h;exact .nil
 |d::ds,_,_,_,i,h,q'=>by
  simp only [DVs] at h
  obtain ⟨v,r,rfl,q,u⟩:=h
  cases i with
  |zero=>exact .cons q' u
  |succ i=>exact .cons q (DVs.set i u q')
theorem DVs.take:∀{ds:List D} {vs:List V} (n:Nat),DVs K m H ds vs→DVs K m H (ds.take n) (vs.take n)
 |_,_,0,_=>by simpa using (DVs.nil:DVs K m H [] [])
 |[],_,n+1,h=>by simp only [DVs] at h;subst h;exact .nil
 |d::ds,_,n+1,h=>by
  simp only [DVs] at h
  obtain ⟨v,r,rfl,q,u⟩:=h
  exact .cons q (DVs.take n u)
theorem DVs.drop:∀{ds:List D} {vs:List V} (n:Nat),DVs K m H ds vs→DVs K m H (ds.drop n) (vs.drop n)
 |_,_,0,h=>by simpa using h
 |[],_,n+1,h=>by simp only [DVs] at h;subst h;exact .nil
 |d::ds,_,n+1,h=>by
  simp only [DVs] at h
  obtain ⟨v,r,rfl,q,u⟩:=h
  simpa using DVs.drop n u
theorem DVs.rep {ds:List D} {vs:List V} (h:DVs K m H ds vs):∀n,DVs K m H (List.replicate n ds).flatten (List.replicate n vs).flatten
 |0=>by simpa using (DVs.nil:DVs K m H [] [])
 |n+1=>by
  rw [FP,Gp,FP,Gp]
  exact h.app (DVs.rep h n)
def HQ (q:Str) (c:Addr) (h:Heap):Prop:=h.CodeRec (.ref c) q
def tabP (K:PySem.W.Frag):Option (Addr×Addr):=match PySem.W.nsIn K mainGlobals "law" with
 |some (some (.ref f))=>(match K.lookup f with
  |some ⟨_,_,.func fd,_⟩=>(match fd.code with
   |.ref c=>(match K.lookup c with
    |some ⟨_,_,.fields vs,_⟩=>(match (vs[11]?:Option Value) with
     |some (.ref P)=>some (c,P)
     |_=>none)
    |_=>none)
   |_=>none)
  |_=>none)
 |_=>none
def TabIs (K:PySem.W.Frag) (H:Hp) (a:Addr):Prop:=(∃c,tabP K=some (c,a))∧∃ps,H a=some (.tbl ps)∧TriplesOk ps.toList∧∀pos cv,codeAmong pos ps.toList=some cv→∃c,cv=.ref c∧H c=some (.ext (HQ "law.<locals>.<lambda>" c))
theorem TabIs.keep {K:PySem.W.Frag} {H H':Hp} {a:Addr} (t:TabIs K H a) (k:Kp H H') (e:H' a=H a):TabIs K H' a:=by
 obtain ⟨z,ps,h1,h2,h3⟩:=t
 exact ⟨z,ps,e.trans h1,h2,fun pos cv q=>let ⟨c,q1,q2⟩:=h3 pos cv q;⟨c,q1,k _ _ q2 rfl⟩⟩
def KM (K:PySem.W.Frag) (m:List Addr) (H:Hp):Cell→Addr→Prop
 |.lst ds,a=>∃vs,H a=some (.lst vs)∧DVs K m H ds vs
 |.tab,a=>TabIs K H a
structure HR (K:PySem.W.Frag) (m:List Addr) (h:HD) (H:Hp):Prop where
 len:m.length=h.length
 nd:m.Nodup
 cells:∀(l:Nat) (c:Cell) (a:Addr),h[l]?=some c→m[l]?=some a→KM K m H c a
theorem HR.at {h:HD} {l:Nat} {c:Cell} (r:HR K m h H) (e:h[l]?=some c):∃a,m[l]?=some a∧KM K m H c a:=by
 have hl:l<h.length:=(qa2.mp e).1
 have:l<m.length:=by rw [r.len];exact hl
 exact ⟨m[l],Bb this,r.cells l c _ e (Bb this)⟩
theorem HR.mem {h:HD} {a:Addr} (r:HR K m h H) (ha:a∈m):H a≠none:=by
 obtain ⟨l,hl,rfl⟩:=Kj ha
 have hl':l<h.length:=by rw [←r.len];exact hl
 have:=r.cells l h[l] m[l] (Bb hl') (Bb hl)
 cases hc:h[l] with
 |lst ds=>
  rw [hc] at this
  obtain ⟨vs,e,_⟩:=this
  rw [e];simp
 |tab=>
  rw [hc] at this
  obtain ⟨_,ps,e,_⟩:=this
  rw [e];simp
theorem HR.same {h:HD} (r:HR K m h H) (k:Kp H H') (s:∀a∈m,H' a=H a):HR K m h H':=by
 refine ⟨r.len,r.nd,fun l c a e q=>?_⟩
 have hm:a∈m:=Gn q
 have:=r.cells l c a e q
 cases c with
 |lst ds=>
  obtain ⟨vs,e1,e2⟩:=this
  exact ⟨vs,by rw [s a hm];exact e1,e2.keep (AQ _) k⟩
 |tab=>exact TabIs.keep this k (s a hm)
theorem HR.new {h:HD} {p:Addr} {o:HO} (r:HR K m h H) (hp:H p=none):HR K m h (Ao H p o):=
 r.same (.new hp) fun a ha=>Au fun z=>r.mem ha (z ▸ hp)
theorem HR.newCell {h:HD} {p:Addr} {o:HO} {c:Cell} (r:HR K m h H) (hp:H p=none) (hc:KM K (m++[p]) (Ao H p o) c p):HR K (m++[p]) (h++[c]) (Ao H p o):=by
 have hpm:p∉m:=fun z=>r.mem z hp
 refine ⟨by simp [r.len],?_,fun l c' a e q=>?_⟩
 ·rw [List.nodup_append]
  refine ⟨r.nd,by simp,fun a ha b hb=>?_⟩
  rw [qaH] at hb
  subst hb
  intro z;subst z;exact hpm ha
 ·by_cases hl:l<m.length
  ·rw [Fo hl] at q
   rw [Fo (by rw [←r.len];exact hl)] at e
   have:=r.cells l c' a e q
   have hne:a≠p:=fun z=>hpm (z ▸ Gn q)
   cases c' with
   |lst ds=>
    obtain ⟨vs,e1,e2⟩:=this
    exact ⟨vs,by rw [Au hne];exact e1,e2.keep (List.prefix_append _ _) (.new hp)⟩
   |tab=>exact TabIs.keep this (.new hp) (Au hne)
  ·have h1:m.length≤l:=Ja hl
   rw [IX h1] at q
   rw [IX (by rw [←r.len];exact h1)] at e
   have e0:l - m.length=0:=by
    cases hz:l - m.length with
    |zero=>rfl
    |succ n=>rw [hz] at q;simp at q
   rw [←r.len] at e
   rw [e0] at q e
   simp at q e
   subst q e
   exact hc
theorem HR.setCell {h:HD} {p:Addr} {l:Nat} {o u:HO} {c:Cell} (r:HR K m h H) (hl:m[l]?=some p) (ho:H p=some o) (i:Nb o=false) (hc:KM K m (Ao H p u) c p):HR K m (h.set l c) (Ao H p u):=by
 refine ⟨by simp [r.len],r.nd,fun j c' a e q=>?_⟩
 by_cases hj:j=l
 ·subst hj
  rw [hl] at q;cases q
  have hlt:j<h.length:=by rw [←r.len];exact (qa2.mp hl).1
  rw [Cy hlt] at e
  cases e
  exact hc
 ·rw [BV (Ne.symm hj)] at e
  have:=r.cells j c' a e q
  have hne:a≠p:=by
   intro z
   subst z
   obtain ⟨h1,e1⟩:=qa2.mp q
   obtain ⟨h2,e2⟩:=qa2.mp hl
   exact hj ((List.getElem_inj r.nd).mp (e1.trans e2.symm))
  cases c' with
  |lst ds=>
   obtain ⟨vs,e1,e2⟩:=this
   exact ⟨vs,by rw [Au hne];exact e1,e2.keep (AQ _) (.set ho i)⟩
  |tab=>exact TabIs.keep this (.set ho i) (Au hne)
def ER (K:PySem.W.Frag) (m:List Addr) (H:Hp) (ρ:Aj) (σ:L2.St):Prop:=ρ.length=σ.length∧∀(i:Nat) (d:D),ρ[i]?=some (some d)→∃v,σ[i]?=some (some v)∧DV K m H d v
theorem ER.keep {ρ:Aj} {σ:L2.St} (p:m <+:m') (k:Kp H H') (e:ER K m H ρ σ):ER K m' H' ρ σ:=⟨e.1,fun i d h=>let ⟨v,a,b⟩:=e.2 i d h;⟨v,a,b.keep p k⟩⟩
theorem ER.set {ρ:Aj} {σ:L2.St} {i:Nat} {d:D} {v:V} (e:ER K m H ρ σ) (r:DV K m H d v):ER K m H (ρ.set i (some d)) (σ.set i (some v)):=by
 refine ⟨by simp [e.1],fun j d' h=>?_⟩
 by_cases hj:i=j
 ·subst hj
  by_cases hl:i < ρ.length
  ·rw [Cy hl] at h
   cases h
   exact ⟨v,by rw [Cy (by rw [←e.1];exact hl)],r⟩
  ·rw [List.getElem?_eq_none (by simp;omega)] at h;cases h
 ·rw [BV hj] at h
  obtain ⟨w,a,b⟩:=e.2 j d' h
  exact ⟨w,by rw [BV hj];exact a,b⟩
theorem ER.start {N:List Str} {ds:List D} {vs:List V} (h:DVs K m H ds vs):ER K m H (ds.map some++List.replicate (N.length - ds.length) none) (L2.start N vs):=by
 refine ⟨by simp [L2.start,h.len],fun i d e=>?_⟩
 by_cases hl:i<ds.length
 ·rw [Fo (by simpa using hl),Ck] at e
  obtain ⟨d',e1⟩:∃d',ds[i]?=some d':=⟨ds[i],Bb hl⟩
  rw [e1] at e
  simp at e
  subst e
  obtain ⟨v,q,r⟩:=h.get e1
  refine ⟨v,?_,r⟩
  unfold L2.start
  rw [Fo (by simpa [←h.len] using hl),Ck,q]
  rfl
 ·rw [IX (by simpa using Ja hl)] at e
  rw [ML] at e
  split at e<;>cases e
def XD (K:PySem.W.Frag) (m:List Addr) (H:Hp) (fs:List (Str×D)) (da:Option Addr):Prop:=
 ∀f d,fs.lookup f=some d→∃a fv v,da=some a∧H a=some (.xd fv)∧fv.lookup f=some v∧DV K m H d v
def Post {α β:Type} (K:PySem.W.Frag) (R:List Addr→Hp→α→β→Prop) (m:List Addr) (H:Hp) (E:XK) (Q:β→Hp→Prop):Out α→Prop
 |.ok a h'=>∀v m' H',m <+:m'→Kp H H'→HR K m' h' H'→R m' H' a v→Q v H'
 |.err C fs h'=>∀da m' H',m <+:m'→Kp H H'→HR K m' h' H'→XD K m' H' fs da→E C da H'
 |.stuck=>False
theorem Post.ahead {α β:Type} {R:List Addr→Hp→α→β→Prop} {E:XK} {Q:β→Hp→Prop} {o:Out α} (p:m <+:m') (k:Kp H H') (h:Post K R m H E Q o):Post K R m' H' E Q o:=by
 cases o with
 |ok a h'=>exact fun v m2 H2 p2 k2=>h v m2 H2 (p.trans p2) (k.trans k2)
 |err C fs h'=>exact fun da m2 H2 p2 k2=>h da m2 H2 (p.trans p2) (k.trans k2)
 |stuck=>exact h
theorem Post.bind {α β γ δ:Type} {R:List Addr→Hp→α→β→Prop} {R':List Addr→Hp→γ→δ→Prop} {E:XK} {Q:δ→Hp→Prop} {Q':β→Hp→Prop} {o:Out α} {k:α→HD→Out γ}
 (h:Post K R' m H E Q (o.bind k)) (f:∀a h1 v m1 H1,o=.ok a h1→m <+:m1→Kp H H1→HR K m1 h1 H1→R m1 H1 a v→Post K R' m1 H1 E Q (k a h1)→Q' v H1):Post K R m H E Q' o:=by
 cases o with
 |ok a h1=>exact fun v m1 H1 p kk hr r=>f a h1 v m1 H1 rfl p kk hr r (h.ahead p kk)
 |err C fs h1=>exact h
 |stuck=>exact h
theorem Post.mono {α β:Type} {R:List Addr→Hp→α→β→Prop} {E:XK} {Q Q':β→Hp→Prop} {o:Out α} (h:Post K R m H E Q o) (f:∀v H',Q v H'→Q' v H'):Post K R m H E Q' o:=by
 cases o with
 |ok a h1=>exact fun v m1 H1 p k hr r=>f _ _ (h v m1 H1 p k hr r)
 |err C fs h1=>exact h
 |stuck=>exact h
end
abbrev ME:=Aj→HD→Out D
abbrev MT:=Aj→HD→Out Bool
abbrev MA:=Aj→HD→Out (List D)
inductive Fl where
 |nx |bk |ct |rt (d:D)
abbrev MS:=Aj→HD→Out (Fl×Aj)
def rD (K:PySem.W.Frag):List Addr→Hp→D→V→Prop:=fun m H d v=>DV K m H d v
def rB:List Addr→Hp→Bool→Bool→Prop:=fun _ _ a b=>a=b
def EV (K:PySem.W.Frag):List Addr→Hp→List D→List V→Prop:=fun m H d v=>DVs K m H d v
inductive tM {α β:Type} (K:PySem.W.Frag) (R:List Addr→Hp→α→β→Prop) (E:XK) (f:Aj→HD→Out α) (σ:L2.St) (H:Hp) (Q:β→Hp→Prop):Prop where
 |mk (m:List Addr) (ρ:Aj) (h:HD) (hr:HR K m h H) (er:ER K m H ρ σ) (p:Post K R m H E Q (f ρ h)):tM K R E f σ H Q
abbrev tD (K:PySem.W.Frag) (E:XK) (f:ME):TE:=tM K (rD K) E f
abbrev HU (K:PySem.W.Frag) (E:XK) (f:MT):TT:=tM K rB E f
abbrev PY (K:PySem.W.Frag) (E:XK) (f:MA):TA:=tM K (EV K) E f
def PZ (K:PySem.W.Frag) (m:List Addr) (H:Hp) (D:DU):Fl×Aj→Prop
 |(.nx,ρ)=>∀σ,ER K m H ρ σ→D.nx σ H
 |(.bk,ρ)=>∀σ,ER K m H ρ σ→D.bk σ H
 |(.ct,ρ)=>∀σ,ER K m H ρ σ→D.ct σ H
 |(.rt d,_)=>∀v,DV K m H d v→D.rt v H
def PostS (K:PySem.W.Frag) (m:List Addr) (H:Hp) (E:XK) (D:DU):Out (Fl×Aj)→Prop
 |.ok a h'=>∀m' H',m <+:m'→Kp H H'→HR K m' h' H'→PZ K m' H' D a
 |.err C fs h'=>∀da m' H',m <+:m'→Kp H H'→HR K m' h' H'→XD K m' H' fs da→E C da H'
 |.stuck=>False
inductive HV (K:PySem.W.Frag) (E:XK) (g:MS) (D:DU) (σ:L2.St) (H:Hp):Prop where
 |mk (m:List Addr) (ρ:Aj) (h:HD) (hr:HR K m h H) (er:ER K m H ρ σ) (p:PostS K m H E D (g ρ h)):HV K E g D σ H
theorem PostS.ahead {K:PySem.W.Frag} {m m':List Addr} {H H':Hp} {E:XK} {D:DU} {o:Out (Fl×Aj)} (p:m <+:m') (k:Kp H H') (h:PostS K m H E D o):PostS K m' H' E D o:=by
 cases o with
 |ok a h'=>exact fun m2 H2 p2 k2=>h m2 H2 (p.trans p2) (k.trans k2)
 |err C fs h'=>exact fun da m2 H2 p2 k2=>h da m2 H2 (p.trans p2) (k.trans k2)
 |stuck=>exact h
abbrev Ev (X:Cx) (E:XK) (e:Expr) (f:ME):Prop:=PE X e (tD X.K E f)
abbrev Ej (X:Cx) (E:XK) (e:Expr) (f:MT):Prop:=PT X e (HU X.K E f)
abbrev CS (X:Cx) (E:XK) (es:List Expr) (f:MA):Prop:=PA X es (PY X.K E f)
abbrev Ex (X:Cx) (E:XK) (st:Stmt) (g:MS):Prop:=PS X st (HV X.K E g)
abbrev AU (X:Cx) (E:XK) (sts:List Stmt) (g:MS):Prop:=DW X sts (HV X.K E g)
section
variable {X:Cx}
theorem BW {e:Expr} {t t':TE} (h:PE X e t) (i:∀σ H Q,t' σ H Q→t σ H Q):PE X e t':=fun pins s σ H Q I q=>h pins s σ H Q I (i σ H Q q)
theorem KN {e:Expr} {t t':TT} (h:PT X e t) (i:∀σ H Q,t' σ H Q→t σ H Q):PT X e t':=fun pins s σ H Q I q=>h pins s σ H Q I (i σ H Q q)
theorem P0 {e:List Expr} {t t':TA} (h:PA X e t) (i:∀σ H Q,t' σ H Q→t σ H Q):PA X e t':=fun pos pins s σ H Q I q=>h pos pins s σ H Q I (i σ H Q q)
theorem FZ {e:Stmt} {t t':TS} (h:PS X e t) (i:∀D σ H,t' D σ H→t D σ H):PS X e t':=fun pins s σ H D I q=>h pins s σ H D I (i D σ H q)
theorem Nf {e:List Stmt} {t t':TS} (h:DW X e t) (i:∀D σ H,t' D σ H→t D σ H):DW X e t':=fun pins s σ H D I q=>h pins s σ H D I (i D σ H q)
end
end LS
namespace LS
open PySem PySem.Spec PyProof.Rows L2
section
variable {X:Cx} {E:XK} {a b c:Expr} {pos:Pos} {f g k:ME}
def Ab (i:Nat):ME:=fun ρ h=>match ρ[i]? with
 |some (some d)=>.ok d h
 |_=>.stuck
theorem Ae {i:Nat} (h:PE X a (MP i)):Ev X E a (Ab i):=BW h fun σ H Q z1_=>by
 obtain ⟨m,ρ,hd,hr,er,p⟩:=z1_
 unfold Ab at p
 split at p
 ·rename_i d e
  obtain ⟨v,e1,r⟩:=er.2 i d e
  exact ⟨v,e1,p v m H (AQ _) (.refl _) hr r⟩
 ·exact p.elim
def mC (d:D):ME:=fun _ h=>.ok d h
theorem HW {d:D} {v:V} (h:PE X a (tC v)) (r:∀m H,DV X.K m H d v):Ev X E a (mC d):=BW h fun σ H Q z2_=>by obtain ⟨m,ρ,hd,hr,er,p⟩:=z2_;exact (p v m H (AQ _) (.refl _) hr (r m H))
theorem Al {i:Int} {j:Nat}:Ev X E (.Constant (.int i) j pos) (mC (.int i)):=HW Uk fun _ _=>by simp [DV]
theorem BQ {i:Bool} {j:Nat}:Ev X E (.Constant (.bool i) j pos) (mC (.bl i)):=HW Ul fun _ _=>by simp [DV]
theorem HX {j:Nat}:Ev X E (.Constant .none j pos) (mC .non):=HW Um fun _ _=>by simp [DV]
theorem B4 {x:Str} {j:Nat}:Ev X E (.Constant (.str x) j pos) (mC (.str x)):=HW Uo fun _ _=>by simp [DV]
theorem Wi {x:Str} {i:Int} {t:Tok} {pos:Pos} (hg:Gl X x) (hm:X.mg x=some (.int i t)) (hd:(x==("__debug__":Str))=false:=by decide):Ev X E (.Name x pos) (mC (.int i)):=
 HW (Up (v:=.int i) hg hm ⟨t,rfl⟩ hd) fun _ _=>by simp [DV]
def Ah (op:D→D→HD→Out D) (f g:ME):ME:=fun ρ h=>(f ρ h).bind fun x h1=>(g ρ h1).bind fun y h2=>op x y h2
theorem KO {op:D→D→HD→Out D} {Q:VK} {R:V→V→Hp→Prop} {σ:L2.St} {H:Hp} (h:tD X.K E (Ah op f g) σ H Q)
 (i:∀m H2 h2 x y v u,HR X.K m h2 H2→DV X.K m H2 x v→DV X.K m H2 y u→Post X.K (rD X.K) m H2 E Q (op x y h2)→R v u H2):tD X.K E f σ H fun v H1=>tD X.K E g σ H1 fun u H2=>R v u H2:=by
 obtain ⟨m,ρ,hd,hr,er,p⟩:=h
 refine ⟨m,ρ,hd,hr,er,Post.bind p fun x h1 v m1 H1 _ p1 k1 hr1 r1 q1=>?_⟩
 refine ⟨m1,ρ,h1,hr1,er.keep p1 k1,Post.bind q1 fun y h2 u m2 H2 _ p2 k2 hr2 r2 q2=>?_⟩
 exact i m2 H2 h2 x y v u hr2 (DV.keep p2 k2 r1) r2 q2
def Bz (X:Cx) (f:Value→Value→Sem Value) (op:D→D→HD→Out D):Prop:=
 ∃r:R2,OpR X f r∧∀m H h E x y v u Q,HR X.K m h H→DV X.K m H x v→DV X.K m H y u→Post X.K (rD X.K) m H E Q (op x y h)→r v u H Q
theorem Ay {o:Operator} {op:D→D→HD→Out D} (ho:Bz X (binaryOp o) op) (ha:Ev X E a f) (hb:Ev X E b g):Ev X E (.BinOp a o b pos) (Ah op f g):=by
 obtain ⟨r,ho,i⟩:=ho
 exact BW (U8 ho ha hb) fun σ H Q h=>KO h fun m H2 h2 x y v u hr rx ry q=>i m H2 h2 E x y v u Q hr rx ry q
theorem Fv {o:CmpOp} {op:D→D→HD→Out D} (ho:Bz X (compareOp o) op) (ha:Ev X E a f) (hb:Ev X E b g) (hm:behindInMarks o b=false):Ev X E (.Compare a [o] [b] pos) (Ah op f g):=by
 obtain ⟨r,ho,i⟩:=ho
 exact BW (Vn ho ha hb hm) fun σ H Q h=>KO h fun m H2 h2 x y v u hr rx ry q=>i m H2 h2 E x y v u Q hr rx ry q
def Jk:D→HD→Out Bool
 |.bl b,h=>.ok b h
 |_,_=>.stuck
def Bc (f:ME):MT:=fun ρ h=>(f ρ h).bind Jk
theorem P3 {m:List Addr} {H:Hp} {x:D} {v:V} {h:HD} {Q:Bool→Hp→Prop} (hr:HR X.K m h H) (r:DV X.K m H x v) (q:Post X.K rB m H E Q (Jk x h)):∃k,v=.bl k∧Q k H:=by
 cases x with
 |bl b=>
  simp only [DV] at r
  exact ⟨b,r,q b m H (AQ _) (.refl _) hr rfl⟩
 |_=>exact q.elim
theorem B5 {o:CmpOp} {op:D→D→HD→Out D} (ho:Bz X (compareOp o) op) (ha:Ev X E a f) (hb:Ev X E b g) (hm:behindInMarks o b=false):Ej X E (.Compare a [o] [b] pos) (Bc (Ah op f g)):=by
 obtain ⟨r,ho,i⟩:=ho
 refine KN (Vo ho ha hb hm) fun σ H Q h=>?_
 obtain ⟨m,ρ,hd,hr,er,p⟩:=h
 have h':tD X.K E (Ah op f g) σ H fun x H'=>∃k,x=.bl k∧Q k H':=
  ⟨m,ρ,hd,hr,er,Post.bind p fun x h1 v m1 H1 _ p1 k1 hr1 r1 q1=>P3 hr1 r1 q1⟩
 exact KO h' fun m H2 h2 x y v u hr rx ry q=>i m H2 h2 E x y v u _ hr rx ry q
def EW:D→HD→Out Bool
 |.non,h=>.ok false h
 |.bl b,h=>.ok b h
 |.int i,h=>.ok (i != 0) h
 |.tup ds,h=>.ok (!ds.isEmpty) h
 |.loc l,h=>match h[l]? with
  |some (.lst ds)=>.ok (!ds.isEmpty) h
  |_=>.stuck
 |_,_=>.stuck
def BR (f:ME):MT:=fun ρ h=>(f ρ h).bind EW
theorem P4 {α β:Type} {xs:List α} {ys:List β} (h:xs.length=ys.length):xs.isEmpty=ys.isEmpty:=by
 cases xs<;>cases ys<;>simp_all
theorem Wj {m:List Addr} {H:Hp} {x:D} {v:V} {h:HD} {Q:Bool→Hp→Prop} (hr:HR X.K m h H) (r:DV X.K m H x v) (q:Post X.K rB m H E Q (EW x h)):∃k,M5 X.K v H k∧Q k H:=by
 have go:∀k,EW x h=.ok k h→Q k H:=fun k e=>by rw [e] at q;exact q k m H (AQ _) (.refl _) hr rfl
 cases x with
 |non=>simp only [DV] at r;subst r;exact ⟨false,rfl,go _ rfl⟩
 |bl b=>simp only [DV] at r;subst r;exact ⟨b,rfl,go _ rfl⟩
 |int i=>simp only [DV] at r;subst r;exact ⟨_,rfl,go _ rfl⟩
 |str x=>exact q.elim
 |tup ds=>
  simp only [DV] at r
  obtain ⟨p,vs,rfl,hp,dv⟩:=r
  exact ⟨_,.inr ⟨vs,SqT.of hp,rfl⟩,by rw [←P4 dv.len];exact go _ rfl⟩
 |loc l=>
  simp only [DV] at r
  obtain ⟨p,rfl,hp⟩:=r
  simp only [EW] at q
  split at q
  ·rename_i ds e
   obtain ⟨vs,e1,dv⟩:=hr.cells l _ p e hp
   exact ⟨_,.inl ⟨vs,SqL.of e1,rfl⟩,by rw [←P4 dv.len];exact q _ m H (AQ _) (.refl _) hr rfl⟩
  ·exact q.elim
 |scr ns=>exact q.elim
 |adr a=>exact q.elim
 |ty a=>exact q.elim
 |exc n fs=>exact q.elim
 |edic=>exact q.elim
 |glo n=>exact q.elim
 |clo a vs ds=>exact q.elim
theorem Dl (ha:Ev X E a f) (he:∀Fc,isTrue a X.env Fc=(do let v ←Fc;standAt a.pos;holding [v] (truthy v)):=by intro _;rfl):Ej X E a (BR f):=
 KN (Vs ha he) fun σ H Q z3_=>by obtain ⟨m,ρ,hd,hr,er,p⟩:=z3_;exact (⟨m,ρ,hd,hr,er,Post.bind p fun x h1 v m1 H1 _ p1 k1 hr1 r1 q1=>Wj hr1 r1 q1⟩)
variable {tf tg:MT} {rest:List Expr}
def KP (f g:MT):MT:=fun ρ h=>(f ρ h).bind fun b h1=>if b=true then g ρ h1 else .ok false h1
def Cm (f g:MT):MT:=fun ρ h=>(f ρ h).bind fun b h1=>if b=true then .ok true h1 else g ρ h1
def BS (f:MT):MT:=fun ρ h=>(f ρ h).bind fun b h1=>.ok (!b) h1
abbrev KQ (X:Cx) (E:XK) (e:Expr) (f:MT):Prop:=PW X e (HU X.K E f)
theorem Wk {e:Expr} {t t':TT} (h:PW X e t) (i:∀σ H Q,t' σ H Q→t σ H Q):PW X e t':=fun wh pins s σ H Q I q=>h wh pins s σ H Q I (i σ H Q q)
theorem GC (ha:Ej X E a tf):KQ X E (.BoolOp .Or [a] pos) tf:=Ut ha
theorem EX (ha:Ej X E a tf) (hb:KQ X E (.BoolOp .Or (b::rest) pos) tg):KQ X E (.BoolOp .Or (a::b::rest) pos) (Cm tf tg):=
 Wk (Uu ha hb) fun σ H Q z5_=>by obtain ⟨m,ρ,hd,hr,er,p⟩:=z5_;exact (⟨m,ρ,hd,hr,er,Post.bind p fun x h1 v m1 H1 _ p1 k1 hr1 r1 q1=>by
  cases r1
  cases x with
  |false=>exact ⟨m1,ρ,h1,hr1,er.keep p1 k1,q1⟩
  |true=>exact q1 true m1 H1 (AQ _) (.refl _) hr1 rfl⟩)
theorem GD (h:KQ X E a tf):Ej X E a tf:=PW.pt h
theorem Dm (ha:Ej X E a tf):Ej X E (.UnaryOp .Not a pos) (BS tf):=
 KN (Uv ha) fun σ H Q z6_=>by obtain ⟨m,ρ,hd,hr,er,p⟩:=z6_;exact (⟨m,ρ,hd,hr,er,Post.bind p fun x h1 v m1 H1 _ p1 k1 hr1 r1 q1=>by
  cases r1
  exact q1 _ m1 H1 (AQ _) (.refl _) hr1 rfl⟩)
def F0 (f g:ME):ME:=fun ρ h=>(f ρ h).bind fun x h1=>match x with
 |.bl true=>g ρ h1
 |.bl false=>.ok (.bl false) h1
 |_=>.stuck
def P5 (f g:ME):ME:=fun ρ h=>(f ρ h).bind fun x h1=>match x with
 |.bl true=>.ok (.bl true) h1
 |.bl false=>g ρ h1
 |_=>.stuck
def KR (f:ME):ME:=fun ρ h=>(f ρ h).bind fun x h1=>match x with
 |.bl b=>.ok (.bl (!b)) h1
 |_=>.stuck
theorem Jl {o:BoolOp} (h:Ev X E a f):Ev X E (.BoolOp o [a] pos) f:=Uy h
theorem Jm (ha:Ev X E a f) (hb:Ev X E (.BoolOp .And (b::rest) pos) g):Ev X E (.BoolOp .And (a::b::rest) pos) (F0 f g):=
 BW (Uz ha hb) fun σ H Q ⟨m,ρ,hd,hr,er,p⟩=>⟨m,ρ,hd,hr,er,Post.bind p fun x h1 v m1 H1 _ p1 k1 hr1 r1 q1=>by
  cases x with
  |bl b=>
   refine ⟨b,by simpa [rD,DV] using r1,?_⟩
   cases b with
   |true=>exact ⟨m1,ρ,h1,hr1,er.keep p1 k1,q1⟩
   |false=>exact q1 _ m1 H1 (AQ _) (.refl _) hr1 (by simp [rD,DV])
  |_=>exact q1.elim⟩
theorem Wl (ha:Ev X E a f):Ev X E (.UnaryOp .Not a pos) (KR f):=
 BW (UA ha) fun σ H Q z9_=>by obtain ⟨m,ρ,hd,hr,er,p⟩:=z9_;exact (⟨m,ρ,hd,hr,er,Post.bind p fun x h1 v m1 H1 _ p1 k1 hr1 r1 q1=>by
  cases x with
  |bl b=>exact ⟨b,by simpa [rD,DV] using r1,q1 _ m1 H1 (AQ _) (.refl _) hr1 (by simp [rD,DV])⟩
  |_=>exact q1.elim⟩)
def Jn (t:MT) (f g:ME):ME:=fun ρ h=>(t ρ h).bind fun b h1=>if b=true then f ρ h1 else g ρ h1
theorem P6 (hc:Ej X E c tf) (ha:Ev X E a f) (hb:Ev X E b g):Ev X E (.IfExp c a b pos) (Jn tf f g):=
 BW (UC hc ha hb) fun σ H Q z10_=>by obtain ⟨m,ρ,hd,hr,er,p⟩:=z10_;exact (⟨m,ρ,hd,hr,er,Post.bind p fun x h1 v m1 H1 _ p1 k1 hr1 r1 q1=>by
  cases r1
  cases x with
  |true=>exact ⟨m1,ρ,h1,hr1,er.keep p1 k1,q1⟩
  |false=>exact ⟨m1,ρ,h1,hr1,er.keep p1 k1,q1⟩⟩)
def Fw (op op':D→D→HD→Out D) (f g k:ME):ME:=fun ρ h=>(f ρ h).bind fun x h1=>(g ρ h1).bind fun y h2=>(op x y h2).bind fun z h3=>match z with
 |.bl true=>(k ρ h3).bind fun w h4=>op' y w h4
 |.bl false=>.ok (.bl false) h3
 |_=>.stuck
theorem P7 {r r':R2} {op op':D→D→HD→Out D} {o o':Value→Value→Sem Value} (i:∀m H h E x y v u Q,HR X.K m h H→DV X.K m H x v→DV X.K m H y u→Post X.K (rD X.K) m H E Q (op x y h)→r v u H Q)
 (i':∀m H h E x y v u Q,HR X.K m h H→DV X.K m H x v→DV X.K m H y u→Post X.K (rD X.K) m H E Q (op' x y h)→r' v u H Q) {σ:L2.St} {H:Hp} {Q:VK} (h:tD X.K E (Fw op op' f g k) σ H Q):
 M4 r r' (tD X.K E f) (tD X.K E g) (tD X.K E k) σ H Q:=by
 obtain ⟨m,ρ,hd,hr,er,p⟩:=h
 refine ⟨m,ρ,hd,hr,er,Post.bind p fun x h1 v m1 H1 _ p1 k1 hr1 r1 q1=>?_⟩
 refine ⟨m1,ρ,h1,hr1,er.keep p1 k1,Post.bind q1 fun y h2 u m2 H2 _ p2 k2 hr2 r2 q2=>?_⟩
 refine i m2 H2 h2 E x y v u _ hr2 (DV.keep p2 k2 r1) r2 (Post.bind q2 fun z h3 w m3 H3 _ p3 k3 hr3 r3 q3=>?_)
 cases z with
 |bl b=>
  refine ⟨b,by simpa [rD,DV] using r3,?_⟩
  cases b with
  |false=>exact q3 _ m3 H3 (AQ _) (.refl _) hr3 (by simp [rD,DV])
  |true=>
   refine ⟨m3,ρ,h3,hr3,((er.keep p1 k1).keep p2 k2).keep p3 k3,Post.bind q3 fun z h4 w' m4 H4 _ p4 k4 hr4 r4 q4=>?_⟩
   exact i' m4 H4 h4 E y z u w' Q hr4 (DV.keep p4 k4 (DV.keep p3 k3 r2)) r4 q4
 |_=>exact q3.elim
theorem P8 {o o':CmpOp} {op op':D→D→HD→Out D} (ho:Bz X (compareOp o) op) (ho':Bz X (compareOp o') op') (ha:Ev X E a f) (hb:Ev X E b g) (hc:Ev X E c k)
 (hm:lastMarks [o,o'] [b,c]=false:=by with_unfolding_all rfl):Ev X E (.Compare a [o,o'] [b,c] pos) (Fw op op' f g k):=by
 obtain ⟨r,ho,i⟩:=ho
 obtain ⟨r',ho',i'⟩:=ho'
 exact BW (Vp ho ho' ha hb hc hm) fun σ H Q h=>P7 (o:=compareOp o) (o':=compareOp o') i i' h
theorem P9 {o o':CmpOp} {op op':D→D→HD→Out D} (ho:Bz X (compareOp o) op) (ho':Bz X (compareOp o') op') (ha:Ev X E a f) (hb:Ev X E b g) (hc:Ev X E c k)
 (hm:lastMarks [o,o'] [b,c]=false:=by with_unfolding_all rfl):Ej X E (.Compare a [o,o'] [b,c] pos) (Bc (Fw op op' f g k)):=by
 obtain ⟨r,ho,i⟩:=ho
 obtain ⟨r',ho',i'⟩:=ho'
 refine KN (Vq ho ho' ha hb hc hm) fun σ H Q h=>?_
 obtain ⟨m,ρ,hd,hr,er,p⟩:=h
 exact P7 (o:=compareOp o) (o':=compareOp o') i i' ⟨m,ρ,hd,hr,er,Post.bind p fun x h1 v m1 H1 _ p1 k1 hr1 r1 q1=>P3 hr1 r1 q1⟩
variable {es:List Expr} {fa:MA}
def Ad:MA:=fun _ h=>.ok [] h
def Aa (f:ME) (r:MA):MA:=fun ρ h=>(f ρ h).bind fun x h1=>(r ρ h1).bind fun xs h2=>.ok (x::xs) h2
theorem Af:CS X E [] Ad:=P0 Jg fun σ H Q z11_=>by obtain ⟨m,ρ,hd,hr,er,p⟩:=z11_;exact (p [] m H (AQ _) (.refl _) hr .nil)
theorem Ac (ha:Ev X E a f) (hr:CS X E es fa) (hs:starEach (a::es) X.env=(false,eval a X.env)::starEach es X.env:=by rfl):CS X E (a::es) (Aa f fa):=
 P0 (Jh ha hr hs) fun σ H Q z12_=>by obtain ⟨m,ρ,hd,hr,er,p⟩:=z12_;exact (⟨m,ρ,hd,hr,er,Post.bind p fun x h1 v m1 H1 _ p1 k1 hr1 r1 q1=>
  ⟨m1,ρ,h1,hr1,er.keep p1 k1,Post.bind q1 fun xs h2 vs m2 H2 _ p2 k2 hr2 r2 q2=>q2 _ m2 H2 (AQ _) (.refl _) hr2 (DVs.cons (DV.keep p2 k2 r1) r2)⟩⟩)
def AW (fa:MA):ME:=fun ρ h=>(fa ρ h).bind fun xs h1=>if xs.length≤sizeLine then .ok (.tup xs) h1 else .stuck
def B6 (xs:List D) (h:HD):Out D:=if xs.length≤sizeLine then .ok (.loc h.length) (h++[.lst xs]) else .stuck
def Ba (fa:MA):ME:=fun ρ h=>(fa ρ h).bind B6
theorem GE {m:List Addr} {H:Hp} {h:HD} {xs:List D} {vs:List V} {Q:VK} (hr:HR X.K m h H) (r:DVs X.K m H xs vs) (q:Post X.K (rD X.K) m H E Q (.ok (.tup xs) h)):∀p,H p=none→Q (.ref p) (Ao H p (.tup vs)):=fun p hp=>
 q (.ref p) m _ (AQ _) (.new hp) (hr.new hp) (by simp only [rD,DV];exact ⟨p,vs,rfl,B3,r.keep (AQ _) (.new hp)⟩)
theorem HY {m:List Addr} {H:Hp} {h:HD} {xs:List D} {vs:List V} {Q:VK} (hr:HR X.K m h H) (r:DVs X.K m H xs vs) (q:Post X.K (rD X.K) m H E Q (B6 xs h)):vs.length≤sizeLine∧∀p,H p=none→Q (.ref p) (Ao H p (.lst vs)):=by
 unfold B6 at q
 by_cases hz:xs.length≤sizeLine
 ·rw [if_pos hz] at q
  refine ⟨by rw [←r.len];exact hz,fun p hp=>?_⟩
  refine q (.ref p) (m++[p]) _ (List.prefix_append _ _) (.new hp) (hr.newCell hp ⟨vs,B3,r.keep (List.prefix_append _ _) (.new hp)⟩) ?_
  simp only [rD,DV]
  exact ⟨p,rfl,by rw [←hr.len];simp⟩
 ·rw [if_neg hz] at q;exact q.elim
theorem Bw {x1:Nat} (h:CS X E es fa):Ev X E (.Tuple es x1 pos) (AW fa):=
 BW (VB h) fun σ H Q z13_=>by obtain ⟨m,ρ,hd,hr,er,p⟩:=z13_;exact (⟨m,ρ,hd,hr,er,Post.bind p fun xs h1 vs m1 H1 _ p1 k1 hr1 r1 q1=>by
  by_cases hz:xs.length≤sizeLine
  ·rw [if_pos hz] at q1
   exact ⟨by rw [←DVs.len r1];exact hz,GE hr1 r1 q1⟩
  ·rw [if_neg hz] at q1;exact q1.elim⟩)
theorem Bx (h:CS X E es fa):Ev X E (.List es pos) (Ba fa):=
 BW (VC h) fun σ H Q z14_=>by obtain ⟨m,ρ,hd,hr,er,p⟩:=z14_;exact (⟨m,ρ,hd,hr,er,Post.bind p fun xs h1 vs m1 H1 _ p1 k1 hr1 r1 q1=>HY hr1 r1 q1⟩)
inductive KS (K:PySem.W.Frag) (F:List D→HD→Out D) (vs:List V) (H:Hp) (Q:VK) (E:XK):Prop where
 |mk (m:List Addr) (ds:List D) (h:HD) (hr:HR K m h H) (r:DVs K m H ds vs) (p:Post K (rD K) m H E0 Q (F ds h)):KS K F vs H Q E
def Ar (n:Nat) (F:List D→HD→Out D):Prop:=∀ds h,ds.length≠n→F ds h=.stuck
theorem Ar.len {K:PySem.W.Frag} {n:Nat} {F:List D→HD→Out D} (ar:Ar n F) {vs:List V} {H:Hp} {Q:VK} {E':XK} (h:KS K F vs H Q E'):vs.length=n:=by
 obtain ⟨m,ds,hd,hr,r,p⟩:=h
 rw [←r.len]
 by_cases e:ds.length=n
 ·exact e
 ·rw [ar ds hd e] at p;exact p.elim
def ar0 (F:HD→Out D):List D→HD→Out D:=fun ds h=>match ds with
 |[]=>F h
 |_=>.stuck
def An (F:D→HD→Out D):List D→HD→Out D:=fun ds h=>match ds with
 |[a]=>F a h
 |_=>.stuck
def Bd (F:D→D→HD→Out D):List D→HD→Out D:=fun ds h=>match ds with
 |[a,b]=>F a b h
 |_=>.stuck
def Wm (F:D→D→D→HD→Out D):List D→HD→Out D:=fun ds h=>match ds with
 |[a,b,c]=>F a b c h
 |_=>.stuck
def Ag (F:List D→HD→Out D) (fa:MA):ME:=fun ρ h=>(fa ρ h).bind F
def Do (X:Cx) (f:Value) (F:List D→HD→Out D):Prop:=
 ∃r:List V→Hp→VK→Prop,CQ X f r∧∀m H h E ds vs Q,HR X.K m h H→DVs X.K m H ds vs→Post X.K (rD X.K) m H E Q (F ds h)→r vs H Q
theorem AJ {id:String} {F:List D→HD→Out D} {x:Str} {p pos:Pos} {e:Expr} (hc:Do X (.builtin id) F) (hg:Gl X x) (hm:X.mg x=none) (hv:bootBuiltins x=some (.builtin id)) (ha:CS X E (e::es) fa) (hn:x≠"__name__":=by decide) (hdb:(x==("__debug__":Str))=false:=by decide)
 (hs:starEach (e::es) X.env=(false,eval e X.env)::starEach es X.env:=by rfl) (hpl:(backTo pos (starEach es X.env)).any (·.1)=false:=by rfl):Ev X E (.Call (.Name x p) (e::es) [] pos) (Ag F fa):=by
 obtain ⟨r,hc,i⟩:=hc
 exact BW (PJ hc hg hm hv ha hn hdb hs hpl) fun σ H Q z17_=>by obtain ⟨m,ρ,hd,hr,er,p⟩:=z17_;exact (⟨m,ρ,hd,hr,er,Post.bind p fun xs h1 vs m1 H1 e1 p1 k1 hr1 r1 q1=>i m1 H1 h1 E xs vs Q hr1 r1 q1⟩)
theorem CB {id:String} {F:List D→HD→Out D} {x:Str} {p pos:Pos} {e:Expr} (hc:Do X (.type id) F) (hg:Gl X x) (hm:X.mg x=none) (hv:bootBuiltins x=some (.type id)) (ha:CS X E (e::es) fa) (hn:x≠"__name__":=by decide) (hdb:(x==("__debug__":Str))=false:=by decide)
 (hs:starEach (e::es) X.env=(false,eval e X.env)::starEach es X.env:=by rfl) (hpl:(backTo pos (starEach es X.env)).any (·.1)=false:=by rfl):Ev X E (.Call (.Name x p) (e::es) [] pos) (Ag F fa):=by
 obtain ⟨r,hc,i⟩:=hc
 exact BW (KH hc hg hm hv ha hn hdb hs hpl) fun σ H Q z18_=>by obtain ⟨m,ρ,hd,hr,er,p⟩:=z18_;exact (⟨m,ρ,hd,hr,er,Post.bind p fun xs h1 vs m1 H1 e1 p1 k1 hr1 r1 q1=>i m1 H1 h1 E xs vs Q hr1 r1 q1⟩)
end
section
variable {X:Cx} {E:XK}
theorem Bo {K:PySem.W.Frag} {m:List Addr} {H:Hp} {h:HD} {d:D} {v:V} {Q:VK} (hr:HR K m h H) (q:Post K (rD K) m H E Q (.ok d h)) (r:DV K m H d v):Q v H:=q v m H (AQ _) (.refl _) hr r
theorem op_catT0:OpR X (binaryOp .Add) (fun x y H Q=>∃a b ys,x=.ref a∧y=.ref b∧SqT X.K H a []∧SqT X.K H b ys∧Q (.ref b) H):=by
 intro pins s σ H x y v u Q I rx ry h
 obtain ⟨a,b,ys,rfl,rfl,ha,hb,q⟩:=h
 cases rx
 cases ry
 obtain ⟨its,r1,p1,_⟩:=I.tuple ha
 obtain ⟨its2,r2,p2,_⟩:=I.tuple hb
 cases r1
 obtain ⟨⟨cls,dd,data,sl⟩,ho,hc,n,hd⟩:=id p1
 obtain ⟨⟨cls2,dd2,data2,sl2⟩,ho2,hc2,n2,hd2⟩:=id p2
 simp only at hc hd hc2 hd2
 subst hc hd hc2 hd2
 exact concat_meets ⟨_,ho,rfl⟩ ⟨_,ho2,rfl⟩ noFill_tuple_add seq_tuple_add PySem.F.slot_tuple_add PySem.F.entry_tuple_add (PySem.F.args_tuple_add_2 _ _)
  (tuple_addW0 a b _ its2.toArray n n2 dd dd2 sl sl2 (by simp)) ⟨ho,ho2,⟨.ref b,H,I,rfl,q⟩⟩
def AL:D→D→HD→Out D
 |.int i,.int j,h=>.ok (.int (i+j)) h
 |.str x,.str y,h=>if x.length+y.length≤sizeLine then .ok (.str (x++y)) h else .stuck
 |.tup xs,.tup ys,h=>if xs.length+ys.length≤sizeLine then .ok (.tup (xs++ys)) h else .stuck
 |.loc l,.loc k,h=>match h[l]?,h[k]? with
  |some (.lst xs),some (.lst ys)=>B6 (xs++ys) h
  |_,_=>.stuck
 |_,_,_=>.stuck
theorem Bm:Bz X (binaryOp .Add) AL:=by
 refine ⟨_,op_add.or (op_catT0.or (op_catT.or (op_cat.or Vt))),fun m H h E x y v u Q hr rx ry q=>?_⟩
 unfold AL at q
 split at q
 ·simp only [DV] at rx ry
  subst rx ry
  exact .inl ⟨_,_,rfl,rfl,Bo hr q (by simp [DV])⟩
 ·simp only [DV] at rx ry
  subst rx ry
  split at q
  ·rename_i hz
   exact .inr (.inr (.inr (.inr ⟨_,_,rfl,rfl,hz,Bo hr q (by simp [DV])⟩)))
  ·exact q.elim
 ·rename_i xs ys
  simp only [DV] at rx ry
  obtain ⟨a,vs,rfl,ha,dx⟩:=rx
  obtain ⟨b,ws,rfl,hb,dy⟩:=ry
  split at q
  ·rename_i hz
   cases xs with
   |nil=>
    simp only [DVs] at dx
    subst dx
    exact .inr (.inl ⟨a,b,ws,rfl,rfl,SqT.of ha,SqT.of hb,Bo hr q (by simp only [DV];exact ⟨b,ws,rfl,hb,dy⟩)⟩)
   |cons x xs=>
    refine .inr (.inr (.inl ⟨a,b,vs,ws,rfl,rfl,SqT.of ha,SqT.of hb,?_,by rw [←dx.len,←dy.len];exact hz,fun e=>?_,fun e=>?_⟩))
    ·intro e;have:=dx.len;rw [e] at this;simp at this
    ·subst e
     have:ys=[]:=by have:=dy.len;simpa using this
     subst this
     exact Bo hr q (by simp only [DV];exact ⟨a,vs,rfl,ha,by simpa using dx⟩)
    ·exact GE hr (dx.app dy) q
  ·exact q.elim
 ·simp only [DV] at rx ry
  obtain ⟨a,rfl,ha⟩:=rx
  obtain ⟨b,rfl,hb⟩:=ry
  split at q
  ·rename_i xs ys e1 e2
   obtain ⟨vs,h1,d1⟩:=hr.cells _ _ a e1 ha
   obtain ⟨ws,h2,d2⟩:=hr.cells _ _ b e2 hb
   obtain ⟨z,q'⟩:=HY hr (d1.app d2) q
   exact .inr (.inr (.inr (.inl ⟨a,b,vs,ws,rfl,rfl,h1,h2,by simpa using z,q'⟩)))
  ·exact q.elim
 ·exact q.elim
def intD (f:Int→Int→D) (c:Int→Int→Prop) [∀i j,Decidable (c i j)]:D→D→HD→Out D
 |.int i,.int j,h=>if c i j then .ok (f i j) h else .stuck
 |_,_,_=>.stuck
theorem KU {o:Value→Value→Sem Value} {f:Int→Int→V} {g:Int→Int→D} {c c':Int→Int→Prop} [∀i j,Decidable (c' i j)] (h:OpR X o (rI c f)) (hc:∀i j,c' i j→c i j) (hg:∀m H i j,DV X.K m H (g i j) (f i j)):Bz X o (intD g c'):=by
 refine ⟨_,h,fun m H h E x y v u Q hr rx ry q=>?_⟩
 unfold intD at q
 split at q
 ·simp only [DV] at rx ry
  subst rx ry
  split at q
  ·rename_i hc'
   exact ⟨_,_,rfl,rfl,hc _ _ hc',Bo hr q (hg _ _ _ _)⟩
  ·exact q.elim
 ·exact q.elim
def F4 (f:Int→Int→D):D→D→HD→Out D
 |.int i,.int j,h=>.ok (f i j) h
 |_,_,_=>.stuck
theorem Jo {o:Value→Value→Sem Value} {f:Int→Int→V} {g:Int→Int→D} (h:OpR X o (Fu f)) (hg:∀m H i j,DV X.K m H (g i j) (f i j)):Bz X o (F4 g):=by
 refine ⟨_,h,fun m H h E x y v u Q hr rx ry q=>?_⟩
 unfold F4 at q
 split at q
 ·simp only [DV] at rx ry
  subst rx ry
  exact ⟨_,_,rfl,rfl,Bo hr q (hg _ _ _ _)⟩
 ·exact q.elim
abbrev Fx:=F4 fun i j=>.int (i - j)
theorem HZ:Bz X (binaryOp .Sub) Fx:=Jo Va fun _ _ _ _=>by simp [DV]
abbrev H0:=F4 fun i j=>.bl (decide (i<j))
abbrev Ia:=F4 fun i j=>.bl (decide (i≤j))
abbrev KV:=F4 fun i j=>.bl (decide (j<i))
theorem Jp:Bz X (compareOp .Lt) H0:=Jo Vj fun _ _ _ _=>by simp [DV]
theorem Jq:Bz X (compareOp .LtE) Ia:=Jo Vk fun _ _ _ _=>by simp [DV]
theorem Ng:Bz X (compareOp .Gt) KV:=Jo Vl fun _ _ _ _=>by simp [DV]
instance (i j:Int):Decidable (CMul i j):=by unfold CMul;infer_instance
instance (i j:Int):Decidable (Po i j):=by unfold Po;infer_instance
instance (i j:Int):Decidable (GB i j):=by unfold GB;infer_instance
abbrev Ek:=intD (fun i j=>.int (i % j)) fun _ j=>0<j
theorem Ib:Bz X (binaryOp .Mod) Ek:=KU Vb (fun _ _ h=>h) fun _ _ _ _=>by simp [DV]
abbrev Jr:=intD (fun i j=>.int (i^j.toNat)) GB
theorem Qa:Bz X (binaryOp .Pow) Jr:=KU Vc (fun _ _ h=>h) fun _ _ _ _=>by simp [DV]
abbrev F5:=intD (fun i j=>.int (i*2^j.toNat)) GB
theorem Qb:Bz X (binaryOp .LShift) F5:=KU Vd (fun _ _ h=>h) fun _ _ _ _=>by simp [DV]
def Zc6:D→D→HD→Out D
 |.int i,.int j,h=>if CMul i j then .ok (.int (i*j)) h else .stuck
 |.loc l,.int k,h=>match h[l]? with
  |some (.lst xs)=>if -(2^63)≤k∧k<2^63 then B6 (List.replicate k.toNat xs).flatten h else .stuck
  |_=>.stuck
 |_,_,_=>.stuck
theorem op_isnotB:OpR X (compareOp .IsNot) (fun x y H Q=>∃b c,x=.bl b∧y=.bl c∧Q (.bl (!(b==c))) H):=by
 intro pins s σ H x y v u Q I rx ry h
 obtain ⟨b,c,rfl,rfl,q⟩:=h
 cases rx
 cases ry
 exact wpAny_isNot_plain rfl ⟨.bl _,H,I,by cases b<;>cases c<;>rfl,q⟩
def Nh:D→Bool
 |.non=>true
 |_=>false
def Wn:D→D→HD→Out D
 |.bl b,.bl c,h=>.ok (.bl (b==c)) h
 |x,.non,h=>.ok (.bl (Nh x)) h
 |_,_,_=>.stuck
def Js:D→D→HD→Out D
 |.bl b,.bl c,h=>.ok (.bl (!(b==c))) h
 |x,.non,h=>.ok (.bl (!Nh x)) h
 |_,_,_=>.stuck
theorem Wo {m:List Addr} {H:Hp} {x:D} {v:V} (r:DV X.K m H x v):decide (v=.non)=Nh x:=by
 cases x<;>simp only [DV] at r<;>first |(subst r;rfl) |(obtain ⟨_,rfl,_⟩:=r;rfl) |(obtain ⟨_,_,rfl,_⟩:=r;rfl) |(obtain ⟨_,_,_,rfl,_⟩:=r;rfl) |(obtain ⟨rfl,_⟩:=r;rfl)
theorem Wq:Bz X (compareOp .IsNot) Js:=by
 refine ⟨_,op_isnotB.or Vm,fun m H h E x y v u Q hr rx ry q=>?_⟩
 unfold Js at q
 split at q
 ·simp only [DV] at rx ry
  subst rx ry
  exact .inl ⟨_,_,rfl,rfl,Bo hr q (by simp [DV])⟩
 ·simp only [DV] at ry
  subst ry
  exact .inr ⟨rfl,Bo hr q (by simp [DV,Wo rx])⟩
 ·exact q.elim
end
def AV {α:Type}:List (Option α)→Option (List α)
 |[]=>some []
 |none::_=>none
 |some a::r=>(AV r).map (a::·)
def AS (h:HD):Nat→D→Option PyData
 |_,.non=>some .none
 |_,.bl b=>some (.bool b)
 |_,.int i=>some (.int i)
 |_,.str x=>some (.str x)
 |n+1,.tup ds=>(AV (ds.map (AS h n))).map .tuple
 |n+1,.loc l=>match h[l]? with
  |some (.lst ds)=>(AV (ds.map (AS h n))).map .list
  |_=>none
 |_,_=>none
section
variable {X:Cx} {E:XK} {pins:List (Addr×Obj)} {σ:L2.St} {H:Hp} {s:Shared} {m:List Addr} {h:HD}
theorem Ni {n:Nat} (ih:∀(d:D) (v:V) (u:Value) (p:PyData),DV X.K m H d v→RelV v u→AS h n d=some p→∃as,Reads s.heap u p as):
 ∀(ds:List D) (vs:List V) (us:List Value) (ps:List PyData),DVs X.K m H ds vs→Vals vs us→AV (ds.map (AS h n))=some ps→∃as,ReadsAll s.heap us ps as
 |[],vs,us,ps,r,q,e=>by
  simp only [DVs] at r
  subst r
  cases q
  simp [AV] at e
  subst e
  exact ⟨[],.nil⟩
 |d::ds,vs,us,ps,r,q,e=>by
  simp only [DVs] at r
  obtain ⟨v,w,rfl,rv,rw'⟩:=r
  cases q with
  |cons q1 q2=>
   rw [Bu] at e
   cases ed:AS h n d with
   |none=>rw [ed] at e;simp [AV] at e
   |some p=>
    rw [ed] at e
    simp only [AV,qaV] at e
    obtain ⟨ps',e1,rfl⟩:=e
    obtain ⟨as,h1⟩:=ih d v _ p rv q1 ed
    obtain ⟨bs,h2⟩:=Ni ih ds w _ ps' rw' q2 e1
    exact ⟨as++bs,.cons h1 h2⟩
theorem Nj (hok:HOk X.prog X.w H s.heap) (hr:HR X.K m h H):∀(n:Nat) (d:D) (v:V) (u:Value) (p:PyData),DV X.K m H d v→RelV v u→AS h n d=some p→∃as,Reads s.heap u p as:=by
 intro n
 induction n with
 |zero=>
  intro d v u p r q e
  cases d<;>simp only [AS,DV,Option.some.injEq] at e r<;>try (cases e;done)
  ·subst e r;cases q;exact ⟨[],.none⟩
  ·subst e r;cases q;exact ⟨[],.bool _⟩
  ·subst e r;obtain ⟨t,rfl⟩:=q;exact ⟨[],.int _ _⟩
  ·subst e r;obtain ⟨t,rfl⟩:=q;exact ⟨[],.str _ _⟩
 |succ n ih=>
  intro d v u p r q e
  cases d with
  |non=>simp only [AS,DV,Option.some.injEq] at e r;subst e r;cases q;exact ⟨[],.none⟩
  |bl b=>simp only [AS,DV,Option.some.injEq] at e r;subst e r;cases q;exact ⟨[],.bool _⟩
  |int i=>simp only [AS,DV,Option.some.injEq] at e r;subst e r;obtain ⟨t,rfl⟩:=q;exact ⟨[],.int _ _⟩
  |str x=>simp only [AS,DV,Option.some.injEq] at e r;subst e r;obtain ⟨t,rfl⟩:=q;exact ⟨[],.str _ _⟩
  |tup ds=>
   simp only [AS,DV,qaV] at e r
   obtain ⟨a,vs,rfl,ha,dv⟩:=r
   obtain ⟨ps,e1,rfl⟩:=e
   cases q
   obtain ⟨_,its,rv,⟨o,ho,hc,k,hd⟩,_⟩:=hok a _ ha
   obtain ⟨as,h1⟩:=Ni ih ds vs its ps dv rv e1
   exact ⟨as,.tuple ho hc hd (by simpa using h1)⟩
  |loc l=>
   simp only [DV] at r
   obtain ⟨a,rfl,ha⟩:=r
   cases q
   simp only [AS] at e
   split at e
   ·rename_i ds el
    simp only [qaV] at e
    obtain ⟨ps,e1,rfl⟩:=e
    obtain ⟨vs,hv,dv⟩:=hr.cells l _ a el ha
    obtain ⟨_,its,k,rv,ho⟩:=hok a _ hv
    obtain ⟨as,h1⟩:=Ni ih ds vs its ps dv rv e1
    exact ⟨_,.list ho rfl rfl (by simpa using h1)⟩
   ·cases e
  |scr ns=>simp [AS] at e
  |adr a=>simp [AS] at e
  |ty a=>simp [AS] at e
  |exc n fs=>simp [AS] at e
  |edic=>simp [AS] at e
  |glo n=>simp [AS] at e
  |clo a vs ds=>simp [AS] at e
def Fy (f:PyData→PyData→Bool):D→D→HD→Out D:=fun x y h=>match AS h 8 x,AS h 8 y with
 |some p,some q=>if SeqAt.shaped p=true∧SeqAt.shaped q=true then .ok (.bl (f p q)) h else .stuck
 |_,_=>.stuck
abbrev GF:=Fy PyData.eqv
abbrev DF:=Fy fun p q=>!PyData.eqv p q
theorem Qc {o:CmpOp} {f:PyData→PyData→Bool}
 (rule:∀{s:Shared} {a b:Value} {p q:PyData} {as bs:List Addr} {Q:Value→Shared→Prop},Reads s.heap a p as→Reads s.heap b q bs→SeqAt.shaped p=true→SeqAt.shaped q=true→Q (.bool (f p q)) s→wpAny (model X.prog X.w) X.A (compareOp o a b) Q X.xe s):
 Bz X (compareOp o) (Fy f):=by
 refine ⟨fun v u H Q=>∃m h x y,HR X.K m h H∧DV X.K m H x v∧DV X.K m H y u∧Post X.K (rD X.K) m H E0 Q (Fy f x y h),?_,fun m H h E x y v u Q hr rx ry q=>⟨m,h,x,y,hr,rx,ry,?_⟩⟩
 ·intro pins s σ H x y v u Q I rx ry hq
  obtain ⟨m,h,dx,dy,hr,r1,r2,q⟩:=hq
  unfold Fy at q
  split at q
  ·rename_i p p' e1 e2
   split at q
   ·rename_i hs
    obtain ⟨as,h1⟩:=Nj I.hok hr 8 dx x v p r1 rx e1
    obtain ⟨bs,h2⟩:=Nj I.hok hr 8 dy y u p' r2 ry e2
    exact rule h1 h2 hs.1 hs.2 ⟨.bl _,H,I,rfl,Bo hr q (by simp [DV])⟩
   ·exact q.elim
  ·exact q.elim
 ·unfold Fy at q ⊢
  split
  ·split
   ·rename_i e1 e2 hs
    rw [e1,e2] at q
    simp only [hs] at q
    exact q
   ·rename_i e1 e2 hs
    rw [e1,e2] at q
    simp only [hs] at q
    exact q.elim
  ·rename_i hn
   split at q
   ·rename_i e1 e2
    exact (hn _ _ e1 e2).elim
   ·exact q.elim
theorem Wr (hu:X.A.units+64<cLine):Bz X (compareOp .Eq) GF:=Qc fun ra rb ha hb h=>eq_dataH ra rb ha hb hu h
theorem Ws (hu:X.A.units+64<cLine):Bz X (compareOp .NotEq) DF:=Qc fun ra rb ha hb h=>ne_dataH ra rb ha hb hu h
def CT:D→Option V
 |.non=>some .non
 |.bl b=>some (.bl b)
 |.int i=>some (.int i)
 |.str x=>some (.str x)
 |_=>none
theorem KW {d:D} {v w:V} (r:DV X.K m H d v) (e:CT d=some w):v=w∧D0 v=true:=by
 cases d<;>simp only [CT,Option.some.injEq,DV] at e r<;>first |(subst e r;exact ⟨rfl,rfl⟩) |cases e
theorem KY:∀{ds:List D} {vs ws:List V},DVs X.K m H ds vs→AV (ds.map CT)=some ws→vs=ws∧vs.all D0=true
 |[],vs,ws,r,e=>by
  simp only [DVs] at r
  simp [AV] at e
  subst r e
  exact ⟨rfl,rfl⟩
 |d::ds,vs,ws,r,e=>by
  simp only [DVs] at r
  obtain ⟨v,w,rfl,rv,rw'⟩:=r
  rw [Bu] at e
  cases ed:CT d with
  |none=>rw [ed] at e;simp [AV] at e
  |some p=>
   rw [ed] at e
   simp only [AV,qaV] at e
   obtain ⟨ps',e1,rfl⟩:=e
   obtain ⟨h1,h2⟩:=KW rv ed
   obtain ⟨h3,h4⟩:=KY rw' e1
   subst h1 h3
   exact ⟨rfl,by simp [h2,h4]⟩
def BA:D→HD→Option (List D)
 |.tup ds,_=>some ds
 |.loc l,h=>match h[l]? with
  |some (.lst ds)=>some ds
  |_=>none
 |.scr ns,_=>some (ns.map .int)
 |_,_=>none
theorem Qd {ns:List Int}:DVs X.K m H (ns.map .int) (ns.map V.int):=by
 induction ns with
 |nil=>exact .nil
 |cons n ns ih=>exact .cons (by simp [DV]) ih
theorem Jt {d:D} {v:V} {ds:List D} (hr:HR X.K m h H) (r:DV X.K m H d v) (e:BA d h=some ds):∃p vs,v=.ref p∧(SqL X.K H p vs∨SqT X.K H p vs)∧DVs X.K m H ds vs:=by
 cases d with
 |tup xs=>
  simp only [DV,BA,Option.some.injEq] at r e
  subst e
  obtain ⟨a,vs,rfl,ha,dv⟩:=r
  exact ⟨a,vs,rfl,.inr (SqT.of ha),dv⟩
 |loc l=>
  simp only [DV] at r
  obtain ⟨a,rfl,ha⟩:=r
  simp only [BA] at e
  split at e
  ·rename_i xs el
   cases e
   obtain ⟨vs,hv,dv⟩:=hr.cells l _ a el ha
   exact ⟨a,vs,rfl,.inl (SqL.of hv),dv⟩
  ·cases e
 |scr ns=>
  simp only [DV,BA,Option.some.injEq] at r e
  subst e
  obtain ⟨a,rfl,ha⟩:=r
  exact ⟨a,_,rfl,.inl ha.sq,Qd⟩
 |_=>simp [BA] at e
def EY (neg:Bool):D→D→HD→Out D:=fun x y h=>match BA y h with
 |none=>.stuck
 |some ds=>match CT x,AV (ds.map CT) with
  |some v,some vs=>.ok (.bl (if neg then !HP v vs else HP v vs)) h
  |_,_=>.stuck
theorem Wt {neg:Bool}:∀m H h E x y v u Q,HR X.K m h H→DV X.K m H x v→DV X.K m H y u→Post X.K (rD X.K) m H E Q (EY neg x y h)→PQ X.K neg v u H Q:=fun m H h E x y v u Q hr rx ry q=>by
 unfold EY at q
 split at q
 ·exact q.elim
 ·rename_i ds e
  split at q
  ·rename_i w ws e1 e2
   obtain ⟨p,vs,rfl,hs,dv⟩:=Jt hr ry e
   obtain ⟨h1,h2⟩:=KW rx e1
   obtain ⟨h3,h4⟩:=KY dv e2
   subst h1 h3
   exact ⟨p,vs,rfl,hs,h2,h4,Bo hr q (by simp [DV])⟩
  ·exact q.elim
theorem KZ:Bz X (compareOp .In) (EY false):=⟨_,V1,Wt⟩
def AC:D→D→HD→Out D:=fun x y h=>match BA x h,y with
 |some ds,.int i=>match Dx ds i with
  |some d=>.ok d h
  |none=>.stuck
 |_,_=>.stuck
theorem Wu {ds:List D} {vs:List V} {i:Int} {d:D} (r:DVs X.K m H ds vs) (e:Dx ds i=some d):∃v,Dx vs i=some v∧DV X.K m H d v:=by
 unfold Dx at e ⊢
 rw [r.len] at e
 cases k:DZ vs.length i with
 |none=>rw [k] at e;cases e
 |some j=>
  rw [k] at e
  exact r.get e
theorem Bt {a b:Expr} {pos:Pos} {f g:ME} (ha:Ev X E a f) (hb:Ev X E b g) (hs:PP b):Ev X E (.Subscript a b pos) (Ah AC f g):=
 BW (VU (ix_list.or ix_tup) ha hb hs) fun σ H Q hq=>KO hq fun m H2 h2 x y v u hr rx ry q=>by
  unfold AC at q
  split at q
  ·rename_i ds i e
   split at q
   ·rename_i d ed
    simp only [DV] at ry
    subst ry
    obtain ⟨p,vs,rfl,hsq,dv⟩:=Jt hr rx e
    obtain ⟨w,e1,r1⟩:=Wu dv ed
    rcases hsq with hsq |hsq
    ·exact .inl ⟨p,vs,i,w,rfl,rfl,hsq,e1,Bo hr q r1⟩
    ·exact .inr ⟨p,vs,i,w,rfl,rfl,hsq,e1,Bo hr q r1⟩
   ·exact q.elim
  ·exact q.elim
def Bn:D→HD→Out D:=fun x h=>match BA x h with
 |some ds=>.ok (.int ds.length) h
 |none=>.stuck
theorem F6 {F:D→HD→Out D} {ds:List D} {vs:List V} {Q:VK} {C:Prop} (r:DVs X.K m H ds vs) (q:Post X.K (rD X.K) m H E Q (An F ds h)) (k:∀d v,vs=[v]→DV X.K m H d v→Post X.K (rD X.K) m H E Q (F d h)→C):C:=by
 unfold An at q
 split at q
 ·simp only [DVs] at r
  obtain ⟨v,w,rfl,rv,rfl⟩:=r
  exact k _ v rfl rv q
 ·exact q.elim
theorem K0 {F:D→D→HD→Out D} {ds:List D} {vs:List V} {Q:VK} {C:Prop} (r:DVs X.K m H ds vs) (q:Post X.K (rD X.K) m H E Q (Bd F ds h)) (k:∀d d' v v',vs=[v,v']→DV X.K m H d v→DV X.K m H d' v'→Post X.K (rD X.K) m H E Q (F d d' h)→C):C:=by
 unfold Bd at q
 split at q
 ·simp only [DVs] at r
  obtain ⟨v,w,rfl,rv,v',w',rfl,rv',rfl⟩:=r
  exact k _ _ v v' rfl rv rv' q
 ·exact q.elim
theorem CC:Do X (.builtin "len") (An Bn):=by
 refine ⟨_,V2,fun m H h E ds vs Q hr r q=>F6 r q fun d v ev rv q=>?_⟩
 unfold Bn at q
 split at q
 ·rename_i xs e
  obtain ⟨p,ws,rfl,hs,dv⟩:=Jt hr rv e
  exact ⟨p,ws,ev,hs,by rw [←dv.len];exact Bo hr q (by simp [DV])⟩
 ·exact q.elim
def CDv (i j:Int):Prop:=0<j∧j<18446744073709551616
instance (i j:Int):Decidable (CDv i j):=by unfold CDv;infer_instance
theorem CDv.no {i j:Int} (h:CDv i j):Builtin.divisionGoesByPylong i j=false:=by
 refine PyProof.noPylong_of_log2 ?_
 have h0:j.natAbs≠0:=by have:=h.1;omega
 have h1:j.natAbs<2^64:=by have:=h.2;have:=h.1;omega
 exact Nat.lt_trans ((Nat.log2_lt h0).mpr h1) (by decide)
theorem Wv:CQ X (.builtin "divmod") (fun xs H Q=>∃i j,xs=[.int i,.int j]∧CDv i j∧∀p,H p=none→Q (.ref p) (Ao H p (.tup [.int (i / j),.int (i % j)]))):=by
 intro pins s σ H xs us Q I r h
 obtain ⟨i,j,rfl,hc,q⟩:=h
 obtain ⟨u,w',rfl,⟨t,rfl⟩,⟨t',rfl⟩⟩:=KC r
 have h1:=hc.1
 refine divmod_int (by omega) ?_ (.inl hc.no)
 rw [Int.fdiv_eq_ediv_of_nonneg i (by omega),Int.fmod_eq_emod_of_nonneg i (by omega)]
 have hn:H s.heap.objs.size=none:=I.hok.fresh (AF _)
 refine ⟨.ref s.heap.objs.size,_,?_,rfl,q _ hn⟩
 refine I.laid (fun b o e=>AB _ e) (AF _) ⟨by simp only [HJ,Gs];rw [sizeLine_eq];decide,[.int (i / j) s.toks,.int (i % j) (s.toks+1)],.cons ⟨_,rfl⟩ (.cons ⟨_,rfl⟩ .nil),?_,NoDict.new⟩
 exact ⟨_,A7 s.heap rfl,rfl,0,rfl⟩
def Ju:D→D→HD→Out D
 |.int i,.int j,h=>if CDv i j then .ok (.tup [.int (i / j),.int (i % j)]) h else .stuck
 |_,_,_=>.stuck
theorem Ww:Do X (.builtin "divmod") (Bd Ju):=by
 refine ⟨_,Wv,fun m H h E ds vs Q hr r q=>K0 r q fun d d' v v' ev rv rv' q=>?_⟩
 unfold Ju at q
 split at q
 ·split at q
  ·rename_i i j hc
   simp only [DV] at rv rv'
   subst rv rv'
   exact ⟨i,j,ev,hc,GE hr (.cons (by simp [DV]) (.cons (by simp [DV]) .nil)) q⟩
  ·exact q.elim
 ·exact q.elim
theorem Wx:OpR X (binaryOp .FloorDiv) (rI CDv fun i j=>.int (i / j)):=Jf fun i j _ _ _ _ _ hc q=>by
 have h1:=hc.1
 exact floordiv_int (by omega) (by rw [Int.fdiv_eq_ediv_of_nonneg i (by omega)];exact q) (.inl hc.no)
abbrev Jv:=intD (fun i j=>.int (i / j)) CDv
theorem Qe:Bz X (binaryOp .FloorDiv) Jv:=KU Wx (fun _ _ h=>h) fun _ _ _ _=>by simp [DV]
def Jw:D→D→HD→Out D
 |.int i,.int j,h=>.ok (.int (if j>i then j else i)) h
 |_,_,_=>.stuck
def F7:D→D→HD→Out D
 |.int i,.int j,h=>.ok (.int (if j<i then j else i)) h
 |_,_,_=>.stuck
theorem Wy (hc:X.calm=true):Do X (.builtin "max") (Bd Jw):=by
 refine ⟨_,Vu hc,fun m H h E ds vs Q hr r q=>K0 r q fun d d' v v' ev rv rv' q=>?_⟩
 unfold Jw at q
 split at q
 ·simp only [DV] at rv rv'
  subst rv rv'
  exact ⟨_,_,ev,Bo hr q (by simp [DV])⟩
 ·exact q.elim
theorem Nk (hc:X.calm=true):Do X (.builtin "min") (Bd F7):=by
 refine ⟨_,Vv hc,fun m H h E ds vs Q hr r q=>K0 r q fun d d' v v' ev rv rv' q=>?_⟩
 unfold F7 at q
 split at q
 ·simp only [DV] at rv rv'
  subst rv rv'
  exact ⟨_,_,ev,Bo hr q (by simp [DV])⟩
 ·exact q.elim
def GG:D→HD→Out D
 |.int i,h=>.ok (.int i) h
 |.bl b,h=>.ok (.int (if b then 1 else 0)) h
 |_,_=>.stuck
theorem Nl:Do X (.type "int") (An GG):=by
 refine ⟨_,Vw,fun m H h E ds vs Q hr r q=>F6 r q fun d v ev rv q=>?_⟩
 unfold GG at q
 split at q
 ·simp only [DV] at rv;subst rv
  exact .inl ⟨_,ev,Bo hr q (by simp [DV])⟩
 ·simp only [DV] at rv;subst rv
  exact .inr ⟨_,ev,Bo hr q (by simp [DV])⟩
 ·exact q.elim
def BJ:D→HD→Out D:=fun x h=>match x with
 |.tup ds=>.ok (.tup ds) h
 |.loc l=>match h[l]? with
  |some (.lst ds)=>.ok (.tup ds) h
  |_=>.stuck
 |_=>.stuck
theorem D3:Do X (.type "tuple") (An BJ):=by
 refine ⟨_,V4,fun m H h E ds vs Q hr r q=>F6 r q fun d v ev rv q=>?_⟩
 unfold BJ at q
 split at q
 ·simp only [DV] at rv
  obtain ⟨a,ws,rfl,ha,dv⟩:=rv
  exact ⟨a,ws,ev,.inr ⟨SqT.of ha,Bo hr q (by simp only [DV];exact ⟨a,ws,rfl,ha,dv⟩)⟩⟩
 ·split at q
  ·rename_i ds' el
   simp only [DV] at rv
   obtain ⟨a,rfl,ha⟩:=rv
   obtain ⟨ws,hv,dv⟩:=hr.cells _ _ a el ha
   exact ⟨a,ws,ev,.inl ⟨SqL.of hv,GE hr dv q⟩⟩
  ·exact q.elim
 ·exact q.elim
end
theorem PostS.bind {α β:Type} {K:PySem.W.Frag} {m:List Addr} {H:Hp} {R:List Addr→Hp→α→β→Prop} {E:XK} {Q':β→Hp→Prop} {Dn:DU} {o:Out α} {k:α→HD→Out (Fl×Aj)}
 (h:PostS K m H E Dn (o.bind k)) (f:∀a h1 v m1 H1,o=.ok a h1→m <+:m1→Kp H H1→HR K m1 h1 H1→R m1 H1 a v→PostS K m1 H1 E Dn (k a h1)→Q' v H1):Post K R m H E Q' o:=by
 cases o with
 |ok a h1=>exact fun v m1 H1 p kk hr r=>f a h1 v m1 H1 rfl p kk hr r (h.ahead p kk)
 |err C fs h1=>exact h
 |stuck=>exact h
theorem PostS.here {K:PySem.W.Frag} {m:List Addr} {H:Hp} {E:XK} {Dn:DU} {a:Fl×Aj} {h:HD} (hr:HR K m h H) (p:PostS K m H E Dn (.ok a h)):PZ K m H Dn a:=p m H (AQ _) (.refl _) hr
section
variable {X:Cx} {E:XK} {st:Stmt} {sts b1 b2:List Stmt} {g g1 g2:MS} {e:Expr} {f:ME} {pos:Pos} {t:MT}
def Bp:MS:=fun ρ h=>.ok (.nx,ρ) h
def Ak (g1 g2:MS):MS:=fun ρ h=>(g1 ρ h).bind fun x h1=>match x with
 |(.nx,ρ1)=>g2 ρ1 h1
 |y=>.ok y h1
theorem BX:AU X E [] Bp:=Nf UG fun Dn σ H z1_=>by obtain ⟨m,ρ,h,hr,er,p⟩:=z1_;exact ((p.here hr) σ er)
theorem Aq (h:Ex X E st g):AU X E [st] g:=UI h
theorem Ap (h1:Ex X E st g1) (h2:AU X E sts g2):AU X E (st::sts) (Ak g1 g2):=
 Nf (UH h1 h2) fun Dn σ H z2_=>by
  obtain ⟨m,ρ,h,hr,er,p⟩:=z2_
  refine ⟨m,ρ,h,hr,er,?_⟩
  unfold Ak at p
  cases o:g1 ρ h with
  |stuck=>rw [o] at p;exact p
  |err C fs h1=>rw [o] at p;exact p
  |ok x h1=>
   rw [o] at p
   obtain ⟨fl,ρ1⟩:=x
   intro m1 H1 p1 k1 hr1
   cases fl with
   |nx=>exact fun σ1 er1=>⟨m1,ρ1,h1,hr1,er1,PostS.ahead p1 k1 p⟩
   |bk=>exact p m1 H1 p1 k1 hr1
   |ct=>exact p m1 H1 p1 k1 hr1
   |rt d=>exact p m1 H1 p1 k1 hr1
def Dp (f:ME):MS:=fun ρ h=>(f ρ h).bind fun _ h1=>.ok (.nx,ρ) h1
theorem Fz (he:Ev X E e f) (hs:swapsWith e none pos.line X.env=pure false:=by rfl):Ex X E (.Expr e pos) (Dp f):=
 FZ (UK he hs) fun Dn σ H z3_=>by obtain ⟨m,ρ,h,hr,er,p⟩:=z3_;exact (⟨m,ρ,h,hr,er,PostS.bind p fun x h1 v m1 H1 _ p1 k1 hr1 r1 q1=>(q1.here hr1) σ (er.keep p1 k1)⟩)
def Av (f:ME):MS:=fun ρ h=>(f ρ h).bind fun d h1=>.ok (.rt d,ρ) h1
theorem AN (he:Ev X E e f):Ex X E (.Return (some e) pos) (Av f):=
 FZ (UM he) fun Dn σ H z4_=>by obtain ⟨m,ρ,h,hr,er,p⟩:=z4_;exact (⟨m,ρ,h,hr,er,PostS.bind p fun x h1 v m1 H1 _ p1 k1 hr1 r1 q1=>(q1.here hr1) v r1⟩)
def Bh (t:MT) (g1 g2:MS):MS:=fun ρ h=>(t ρ h).bind fun b h1=>if b=true then g1 ρ h1 else g2 ρ h1
theorem BY {c:Expr} (hc:Ej X E c t) (ha:AU X E b1 g1) (hb:AU X E b2 g2):Ex X E (.If c b1 b2 pos) (Bh t g1 g2):=
 FZ (UO hc ha hb) fun Dn σ H z5_=>by obtain ⟨m,ρ,h,hr,er,p⟩:=z5_;exact (⟨m,ρ,h,hr,er,PostS.bind p fun x h1 v m1 H1 _ p1 k1 hr1 r1 q1=>by
  cases r1
  cases x with
  |true=>exact ⟨m1,ρ,h1,hr1,er.keep p1 k1,q1⟩
  |false=>exact ⟨m1,ρ,h1,hr1,er.keep p1 k1,q1⟩⟩)
def Qf:MS:=fun _ _=>.stuck
theorem Wz:AU X E sts Qf:=Nf UQ fun Dn σ H z7_=>by obtain ⟨m,ρ,h,hr,er,p⟩:=z7_;exact (p)
def Aw (i:Nat) (f:ME):MS:=fun ρ h=>(f ρ h).bind fun d h1=>.ok (.nx,ρ.set i (some d)) h1
theorem AZ {i:Nat} {x:Str} {pos':Pos} (hN:X.N.Nodup) (hi:X.N[i]?=some x) (hx:HK X.env.scope x) (he:Ev X E e f) (hs:swapsWith e (some (.Name x pos')) pos.line X.env=pure false:=by rfl) (hf:X.fn x=true∨X.env.scope.names.lookup x=some .local:=by first |exact .inl rfl |exact .inr rfl |assumption):
 Ex X E (.Assign [.Name x pos'] e pos) (Aw i f):=
 FZ (UT hN hi hx he hs hf) fun Dn σ H z9_=>by obtain ⟨m,ρ,h,hr,er,p⟩:=z9_;exact (⟨m,ρ,h,hr,er,PostS.bind p fun x h1 v m1 H1 _ p1 k1 hr1 r1 q1=>(q1.here hr1) _ ((er.keep p1 k1).set r1)⟩)
def Ic (i j:Nat) (fa:MA):MS:=fun ρ h=>(fa ρ h).bind fun ds h1=>match ds with
 |[x,y]=>.ok (.nx,(ρ.set i (some x)).set j (some y)) h1
 |_=>.stuck
theorem Qg {i j:Nat} {x y:Str} {a b:Expr} {fa:MA} {px py pt:Pos} {kt k2:Nat} {pt2:Pos} (hc:X.calm=true) (hN:X.N.Nodup) (hi:X.N[i]?=some x) (hj:X.N[j]?=some y) (hij:i≠j)
 (hx:X.env.scope.names.lookup x=some .local) (hy:X.env.scope.names.lookup y=some .local) (ha:CS X E [a,b] fa)
 (hw:swappedStores [.Tuple [.Name x px,.Name y py] kt pt] (.Tuple [a,b] k2 pt2) X.env=pure (some [x,y]))
 (hs:swapsWithSole [.Tuple [.Name x px,.Name y py] kt pt] (.Tuple [a,b] k2 pt2) pos.line X.env=pure false:=by rfl):
 Ex X E (.Assign [.Tuple [.Name x px,.Name y py] kt pt] (.Tuple [a,b] k2 pt2) pos) (Ic i j fa):=
 FZ (UV hc hN hi hj hij hx hy ha hw hs) fun Dn σ H z10_=>by obtain ⟨m,ρ,h,hr,er,p⟩:=z10_;exact (⟨m,ρ,h,hr,er,PostS.bind p fun x h1 v m1 H1 _ p1 k1 hr1 r1 q1=>by
  split at q1
  ·simp only [EV,DVs] at r1
   obtain ⟨v,w,rfl,rv,v',w',rfl,rv',rfl⟩:=r1
   exact ⟨v,v',rfl,(q1.here hr1) _ (((er.keep p1 k1).set rv).set rv')⟩
  ·exact q1.elim⟩)
abbrev MG:=D→Aj→Option Aj
def Jx (X:Cx) (tg:Expr) (sg:MG):Prop:=
 ∃gg:TG,PG X tg gg∧∀m H d v ρ σ ρ' Q,DV X.K m H d v→ER X.K m H ρ σ→sg d ρ=some ρ'→(∀σ',ER X.K m H ρ' σ'→Q σ' H)→gg v σ H Q
def A5 (i:Nat):MG:=fun d ρ=>some (ρ.set i (some d))
def CD (i j:Nat):MG:=fun d ρ=>match d with
 |.tup [x,y]=>some ((ρ.set i (some x)).set j (some y))
 |_=>none
theorem El {i:Nat} {x:Str} (h:PG X (.Name x pos) (De i)):Jx X (.Name x pos) (A5 i):=⟨_,h,fun m H d v ρ σ ρ' Q r er e q=>by
 simp only [A5,Option.some.injEq] at e
 subst e
 exact q _ (er.set r)⟩
theorem K1 {i j:Nat} {x y:Str} {px py:Pos} {kt:Nat} (h:PG X (.Tuple [.Name x px,.Name y py] kt pos) (Gz X.K 2 (DX (De i) (DX (De j) Gy)))):Jx X (.Tuple [.Name x px,.Name y py] kt pos) (CD i j):=⟨_,h,fun m H d v ρ σ ρ' Q r er e q=>by
 unfold CD at e
 split at e
 ·rename_i a b
  cases e
  simp only [DV,DVs] at r
  obtain ⟨p,vs,rfl,hp,v1,w1,rfl,r1,v2,w2,rfl,r2,rfl⟩:=r
  exact ⟨p,_,rfl,SqT.of hp,rfl,v1,_,rfl,v2,_,rfl,rfl,q _ ((er.set r1).set r2)⟩
 ·cases e⟩
def F8 (sg:MG) (f:ME):MS:=fun ρ h=>(f ρ h).bind fun d h1=>match sg d ρ with
 |some ρ1=>.ok (.nx,ρ1) h1
 |none=>.stuck
theorem K2 {tg:Expr} {sg:MG} (he:Ev X E e f) (hg:Jx X tg sg) (hs:swapsWithSole [tg] e pos.line X.env=pure false:=by rfl) (hw:swappedStores [tg] e X.env=pure none:=by rfl)
 (h1:(assignEach [tg] X.env).map (·.2)=[assign tg X.env]:=by rfl):Ex X E (.Assign [tg] e pos) (F8 sg f):=by
 obtain ⟨gg,hg,i⟩:=hg
 exact FZ (Pm he hg hs hw h1) fun Dn σ H z11_=>by obtain ⟨m,ρ,h,hr,er,p⟩:=z11_;exact (⟨m,ρ,h,hr,er,PostS.bind p fun x h1 v m1 H1 _ p1 k1 hr1 r1 q1=>by
  split at q1
  ·rename_i ρ1 es
   exact i m1 H1 x v ρ σ ρ1 _ r1 (er.keep p1 k1) es fun σ' er'=>(q1.here hr1) σ' er'
  ·exact q1.elim⟩)
abbrev Bi:=List (Nat×List D)
def By (src:Bi) (items:List D) (h:HD):Prop:=∀p∈src,h[p.1]?=some (.lst p.2)
theorem DG {items:List D} {h:HD}:By [] items h:=fun p z=>nomatch z
theorem GH {items ds:List D} {h:HD} {l:Nat} (e:h[l]?=some (.lst ds)):By [(l,ds)] items h:=fun p z=>by
 rw [qaH] at z
 subst z
 exact e
def K3 (K:PySem.W.Frag):List Addr→Hp→(List D×Bi)→It→Prop:=fun m1 H1 x J=>
 ∀i m2 h2 H2,m1 <+:m2→Kp H1 H2→HR K m2 h2 H2→By x.2 x.1 h2→
  (i<x.1.length→J.go i H2∧∀y H3,J.yld i H2 y H3→Kp H2 H3∧HR K m2 h2 H3∧∃d,x.1[i]?=some d∧DV K m2 H3 d y)∧(i=x.1.length→J.stop i H2)
abbrev MI:=Aj→HD→Out (List D×Bi)
abbrev F9 (X:Cx) (E:XK) (tg iter:Expr) (it:MI):Prop:=PI X tg iter (tM X.K (K3 X.K) E it)
theorem Jy {tg iter:Expr} {w w':TI} (h:PI X tg iter w) (i:∀σ H R,w' σ H R→w σ H R):PI X tg iter w':=fun pins s σ H R I q=>h pins s σ H R I (i σ H R q)
theorem WA {tg l:Expr} {tl:TE} (hl:PE X l tl):PI X tg l (fun σ H R=>tl σ H fun x H1=>∃a,x=.ref a∧(((∃xs,SqL X.K H1 a xs)∧R (Jb X.K a) H1)∨((∃xs,SqT X.K H1 a xs)∧R (Jc X.K a) H1))):=by
 intro pins s σ H R I h
 refine Ax (hl pins s σ H _ I h) fun v s1 z12_=>?_
 obtain ⟨x,H1,I1,r1,q1⟩:=z12_
 obtain ⟨a,e,q⟩:=q1
 subst e
 cases r1
 rcases q with ⟨⟨xs,hq⟩,q⟩ |⟨⟨xs,hq⟩,q⟩
 ·obtain ⟨its,rv,p,hz⟩:=I1.list hq
  refine wpAny_pyIter_list p.isList ?_
  refine ⟨s1.heap.objs.size,[s1.heap.objs.size],_,_,H1,rfl,I1.kept (t':=s1.toks) fun b o e=>AB _ e,UW a _,⟨_,A7 _ rfl,rfl,rfl⟩,fun b hb=>?_,q⟩
  have e:b=s1.heap.objs.size:=by simpa using hb
  subst e
  exact I1.fpOk (AF _) (I1.hok.fresh (AF _))
 ·obtain ⟨its,rv,p,hz⟩:=I1.tuple hq
  refine wpAny_pyIter_tuple (show s1.heap.IsTuple a its.toArray from p) ?_
  refine ⟨s1.heap.objs.size,[s1.heap.objs.size],_,_,H1,rfl,I1.kept (t':=s1.toks) fun b o e=>AB _ e,UX a _,⟨_,A7 _ rfl,rfl,rfl⟩,fun b hb=>?_,q⟩
  have e:b=s1.heap.objs.size:=by simpa using hb
  subst e
  exact I1.fpOk (AF _) (I1.hok.fresh (AF _))
def Qh:D→List D→Bi
 |.loc l,ds=>[(l,ds)]
 |_,_=>[]
def FA (d:D) (h:HD):Out (List D×Bi):=match BA d h with
 |some ds=>.ok (ds,Qh d ds) h
 |none=>.stuck
def Bq (f:ME):MI:=fun ρ h=>(f ρ h).bind FA
theorem Kp.lget {H H':Hp} {a:Addr} {K:PySem.W.Frag} {xs:List V} (k:Kp H H') (h:FzL K H a xs):SqL K H' a xs:=(k.fzL h).sq
theorem Qi {K:PySem.W.Frag} {a:Addr} {m:List Addr} {H:Hp} {h:HD} {i:Nat} {items:List D} {vs:List V} (hr:HR K m h H) (hs:SqL K H a vs) (dv:DVs K m H items vs) (uniq:∀ys,SqL K H a ys→ys=vs∨True):
 (i<items.length→(Jb K a).go i H∧∀y H3,(Jb K a).yld i H y H3→Kp H H3∧HR K m h H3∧∃d,items[i]?=some d∧DV K m H3 d y)∧(i=items.length→(Jb K a).stop i H):=by
 refine ⟨fun hi=>?_,fun hi=>⟨vs,hs,by rw [←dv.len];exact Nat.le_of_eq hi.symm⟩⟩
 have hd:items[i]?=some items[i]:=Bb hi
 obtain ⟨v,e1,r1⟩:=dv.get hd
 refine ⟨⟨vs,v,hs,e1⟩,fun y H3 z13_=>?_⟩
 obtain ⟨e3,hy⟩:=z13_
 subst e3
 have:=hy vs hs
 rw [e1] at this
 cases this
 exact ⟨.refl _,hr,_,hd,r1⟩
theorem WB {K:PySem.W.Frag} {a:Addr} {m:List Addr} {H:Hp} {h:HD} {i:Nat} {items:List D} {vs:List V} (hr:HR K m h H) (hs:SqT K H a vs) (dv:DVs K m H items vs):
 (i<items.length→(Jc K a).go i H∧∀y H3,(Jc K a).yld i H y H3→Kp H H3∧HR K m h H3∧∃d,items[i]?=some d∧DV K m H3 d y)∧(i=items.length→(Jc K a).stop i H):=by
 refine ⟨fun hi=>?_,fun hi=>⟨vs,hs,by rw [←dv.len];exact Nat.le_of_eq hi.symm⟩⟩
 have hd:items[i]?=some items[i]:=Bb hi
 obtain ⟨v,e1,r1⟩:=dv.get hd
 refine ⟨⟨vs,v,hs,e1⟩,fun y H3 z14_=>?_⟩
 obtain ⟨e3,hy⟩:=z14_
 subst e3
 have:=hy vs hs
 rw [e1] at this
 cases this
 exact ⟨.refl _,hr,_,hd,r1⟩
theorem CF {tg a:Expr} (ha:Ev X E a f):F9 X E tg a (Bq f):=
 Jy (WA ha) fun σ H R ⟨m,ρ,h,hr,er,p⟩=>⟨m,ρ,h,hr,er,Post.bind p fun x h1 v m1 H1 _ p1 k1 hr1 r1 q1=>by
  unfold FA at q1
  split at q1
  ·rename_i ds eds
   cases x with
   |tup xs=>
    simp only [BA,Option.some.injEq] at eds
    subst eds
    simp only [rD,DV] at r1
    obtain ⟨a,vs,rfl,ha,dv⟩:=r1
    refine ⟨a,rfl,.inr ⟨⟨vs,SqT.of ha⟩,q1 _ m1 H1 (AQ _) (.refl _) hr1 fun i m2 h2 H2 p2 k2 hr2 _=>?_⟩⟩
    exact WB hr2 (SqT.of (k2 _ _ ha rfl)) (dv.keep p2 k2)
   |loc l=>
    simp only [rD,DV] at r1
    obtain ⟨a,rfl,ha⟩:=r1
    simp only [BA] at eds
    split at eds
    ·rename_i xs el
     cases eds
     obtain ⟨vs,hv,dv⟩:=hr1.cells l _ a el ha
     refine ⟨a,rfl,.inl ⟨⟨vs,SqL.of hv⟩,q1 _ m1 H1 (AQ _) (.refl _) hr1 fun i m2 h2 H2 p2 k2 hr2 hs=>?_⟩⟩
     obtain ⟨ws,hw,dw⟩:=hr2.cells l _ a (hs _ A8) (Jj p2 ha)
     exact Qi hr2 (SqL.of hw) dw fun _ _=>.inr trivial
    ·cases eds
   |scr ns=>
    simp only [BA,Option.some.injEq] at eds
    subst eds
    simp only [rD,DV] at r1
    obtain ⟨a,rfl,ha⟩:=r1
    refine ⟨a,rfl,.inl ⟨⟨_,ha.sq⟩,q1 _ m1 H1 (AQ _) (.refl _) hr1 fun i m2 h2 H2 p2 k2 hr2 _=>?_⟩⟩
    exact Qi hr2 (k2.lget ha) Qd fun _ _=>.inr trivial
   |_=>simp [BA] at eds
  ·exact q1.elim⟩
def Ga (lo:Int) (n:Nat):List D:=(List.range n).map fun k=>.int (lo+(k:Nat))
theorem Qj {K:PySem.W.Frag} {m1:List Addr} {H1:Hp} (lo:Int) (n:Nat):K3 K m1 H1 (Ga lo n,[]) (Jd lo n):=fun i m2 h2 H2 p2 k2 hr2 _=>by
 refine ⟨fun hi=>?_,fun hi=>?_⟩
 ·have hi':i<n:=by simpa [Ga] using hi
  refine ⟨hi',fun y H3 z16_=>?_⟩
  obtain ⟨e3,ey⟩:=z16_
  subst e3 ey
  refine ⟨.refl _,hr2,.int (lo+i),?_,by simp [DV]⟩
  simp [Ga,HG,hi']
 ·show n≤i
  have hi':i=n:=by simpa [Ga] using hi
  omega
@[irreducible] noncomputable def Ie:List D→HD→Out (List D×Bi):=fun ds h=>match ds with
  |[.int j]=>@ite _ (-(2^62)≤j∧j<2^62) (Classical.propDecidable _) (.ok (Ga 0 j.toNat,[]) h) .stuck
  |_=>.stuck
@[irreducible] noncomputable def Jz:List D→HD→Out (List D×Bi):=fun ds h=>match ds with
  |[.int i,.int j]=>@ite _ ((-(2^62)≤i∧i<2^62)∧-(2^62)≤j∧j<2^62) (Classical.propDecidable _) (.ok (Ga i (j - i).toNat,[]) h) .stuck
  |_=>.stuck
noncomputable def Dq (fa:MA):MI:=fun ρ h=>(fa ρ h).bind Ie
noncomputable def JA (fa:MA):MI:=fun ρ h=>(fa ρ h).bind Jz
theorem FB {tg a:Expr} {fa:MA} {p pos:Pos} (hg:Gl X "range") (hm:X.mg "range"=none) (ha:CS X E [a] fa) (hs:starEach [a] X.env=[(false,eval a X.env)]:=by rfl):F9 X E tg (.Call (.Name "range" p) [a] [] pos) (Dq fa):=
 Jy (U1 hg hm ha hs) fun σ H R z17_=>by obtain ⟨m,ρ,h,hr,er,p⟩:=z17_;exact (⟨m,ρ,h,hr,er,Post.bind p fun x h1 v m1 H1 _ p1 k1 hr1 r1 q1=>by
  unfold Ie at q1
  split at q1
  ·split at q1
   ·rename_i hj
    simp only [EV,DVs,DV] at r1
    obtain ⟨v,w,rfl,rfl,rfl⟩:=r1
    exact ⟨_,rfl,hj.1,hj.2,q1 _ m1 H1 (AQ _) (.refl _) hr1 (Qj 0 _)⟩
   ·exact q1.elim
  ·exact q1.elim⟩)
theorem Qk {tg a b:Expr} {fa:MA} {p pos:Pos} (hg:Gl X "range") (hm:X.mg "range"=none) (ha:CS X E [a,b] fa) (hs:starEach [a,b] X.env=[(false,eval a X.env),(false,eval b X.env)]:=by rfl) (hs2:starEach [b] X.env=[(false,eval b X.env)]:=by rfl):F9 X E tg (.Call (.Name "range" p) [a,b] [] pos) (JA fa):=
 Jy (U2 hg hm ha hs hs2) fun σ H R z18_=>by obtain ⟨m,ρ,h,hr,er,p⟩:=z18_;exact (⟨m,ρ,h,hr,er,Post.bind p fun x h1 v m1 H1 _ p1 k1 hr1 r1 q1=>by
  unfold Jz at q1
  split at q1
  ·split at q1
   ·rename_i hj
    simp only [EV,DVs,DV] at r1
    obtain ⟨v,w,rfl,rfl,v',w',rfl,rfl,rfl⟩:=r1
    exact ⟨_,_,rfl,⟨hj.1.1,hj.1.2,hj.2.1,hj.2.2⟩,q1 _ m1 H1 (AQ _) (.refl _) hr1 (Qj _ _)⟩
   ·exact q1.elim
  ·exact q1.elim⟩)
open Classical in
noncomputable def Em (src:Bi) (items:List D) (sg:MG) (body:MS):List D→MS
 |[]=>fun ρ h=>if By src items h then .ok (.nx,ρ) h else .stuck
 |d::ds=>fun ρ h=>if By src items h then match sg d ρ with
   |none=>.stuck
   |some ρ1=>(body ρ1 h).bind fun x h2=>match x with
    |(.nx,ρ2)=>Em src items sg body ds ρ2 h2
    |(.ct,ρ2)=>Em src items sg body ds ρ2 h2
    |(.bk,ρ2)=>.ok (.nx,ρ2) h2
    |(.rt d,ρ2)=>.ok (.rt d,ρ2) h2
  else .stuck
noncomputable def BZ (it:MI) (sg:MG) (body:MS):MS:=fun ρ h=>(it ρ h).bind fun x h1=>Em x.2 x.1 sg body x.1 ρ h1
inductive Ql (K:PySem.W.Frag) (E:XK) (Dn:DU) (src:Bi) (items:List D) (sg:MG) (g:MS) (m1:List Addr) (H1:Hp) (i n:Nat) (σ2:L2.St) (H2:Hp):Prop where
 |mk (e:n=items.length - i) (l:i≤items.length) (m2:List Addr) (ρ2:Aj) (h2:HD) (p:m1 <+:m2) (k:Kp H1 H2) (hr:HR K m2 h2 H2) (er:ER K m2 H2 ρ2 σ2) (q:PostS K m2 H2 E Dn (Em src items sg g (items.drop i) ρ2 h2)):Ql K E Dn src items sg g m1 H1 i n σ2 H2
inductive Qm (K:PySem.W.Frag) (E:XK) (Dn:DU) (src:Bi) (items:List D) (sg:MG) (g:MS) (m1:List Addr) (H1:Hp) (i:Nat) (σ2:L2.St) (H2:Hp):Prop where
 |mk (m2:List Addr) (ρ2:Aj) (h2:HD) (p:m1 <+:m2) (k:Kp H1 H2) (hr:HR K m2 h2 H2) (er:ER K m2 H2 ρ2 σ2) (q:PostS K m2 H2 E Dn (Em src items sg g (items.drop i) ρ2 h2)):Qm K E Dn src items sg g m1 H1 i σ2 H2
theorem DH {tg iter:Expr} {body:List Stmt} {it:MI} {sg:MG} {g:MS} (hp:PassesOwn (model X.prog X.w) X.A X.env X.xe) (hc:X.calm=true) (hi:F9 X E tg iter it) (hg:Jx X tg sg) (hb:AU X E body g)
 (hs:∀x,foldedSetIterable iter X.env x=pure x:=by intro _;rfl):Ex X E (.For tg iter body [] pos) (BZ it sg g):=by
 obtain ⟨gg,hg,ig⟩:=hg
 refine FZ (U5 hp hc hi hg hb hs) ?_
 rintro Dn σ H ⟨m,ρ,h,hr,er,p⟩
 refine ⟨m,ρ,h,hr,er,PostS.bind p fun x h1 J m1 H1 _ p1 k1 hr1 r1 q1=>?_⟩
 obtain ⟨items,src⟩:=x
 refine ⟨Ql X.K E Dn src items sg g m1 H1,⟨items.length,rfl,DE _,m1,ρ,h1,AQ _,.refl _,hr1,er.keep p1 k1,by simpa using q1⟩,?_⟩
 rintro i n σ2 H2 ⟨rfl,hi,m2,ρ2,h2,p2,k2,hr2,er2,q2⟩
 by_cases hlt:i<items.length
 ·rw [MH hlt] at q2
  unfold Em at q2
  split at q2
  ·rename_i hs
   obtain ⟨hgo,hy⟩:=(r1 i m2 h2 H2 p2 k2 hr2 hs).1 hlt
   refine .inr ⟨hgo,Qm X.K E Dn src items sg g m1 H1 (i+1),fun σ5 H5 z20_=>by obtain ⟨m5,ρ5,h5,a1,a2,a3,a4,a5⟩:=z20_;exact (⟨items.length - (i+1),by omega,rfl,hlt,m5,ρ5,h5,a1,a2,a3,a4,a5⟩),fun y H3 hyl=>?_⟩
   obtain ⟨k3,hr3,d,ed,rd⟩:=hy y H3 hyl
   have ed':d=items[i]:=by rw [Bb hlt] at ed;exact (Option.some.inj ed).symm
   subst ed'
   split at q2
   ·exact q2.elim
   ·rename_i ρ3 es
    refine ig m2 H3 _ y ρ2 σ2 ρ3 _ rd (er2.keep (AQ _) k3) es fun σ4 er4=>?_
    refine ⟨m2,ρ3,h2,hr3,er4,?_⟩
    have q3:=PostS.ahead (AQ _) k3 q2
    cases o:g ρ3 h2 with
    |stuck=>rw [o] at q3;exact q3
    |err C fs h5=>rw [o] at q3;exact q3
    |ok z h5=>
     rw [o] at q3
     obtain ⟨fl,ρ5⟩:=z
     intro m5 H5 p5 k5 hr5
     have pk:m1 <+:m5:=p2.trans p5
     have kk:Kp H1 H5:=(k2.trans k3).trans k5
     cases fl with
     |nx=>exact fun σ5 er5=>⟨m5,ρ5,h5,pk,kk,hr5,er5,PostS.ahead p5 k5 q3⟩
     |ct=>exact fun σ5 er5=>⟨m5,ρ5,h5,pk,kk,hr5,er5,PostS.ahead p5 k5 q3⟩
     |bk=>exact fun σ5 er5=>q3 m5 H5 p5 k5 hr5 σ5 er5
     |rt d=>exact fun v rv=>q3 m5 H5 p5 k5 hr5 v rv
  ·exact q2.elim
 ·have he:i=items.length:=Nat.le_antisymm hi (Ja hlt)
  subst he
  rw [List.drop_length] at q2
  unfold Em at q2
  split at q2
  ·rename_i hs
   exact .inl ⟨(r1 _ m2 h2 H2 p2 k2 hr2 hs).2 rfl,(q2.here hr2) σ2 er2⟩
  ·exact q2.elim
end
section
variable {M:Model} {A:Around} {E:Value→Shared→Prop} {s:Shared}
theorem Nm {env:Env}:∀(names:List (Str×NameKind)) (acc:List (Str×Addr)),(∀y∈names,y.2=.free→∃c,env.cells.lookup y.1=some c)→
 ∃cl:List (Str×Addr),(forIn names acc (fun (x:Str×NameKind) (cs:List (Str×Addr))=>match x with
  |(name,kind)=>if (kind==NameKind.free)=true then do let y ←cellOf env name;pure (ForInStep.yield ((name,y)::cs)) else pure (ForInStep.yield cs)):Sem (List (Str×Addr)))=pure cl∧
  (∀x c,(x,c)∈cl→(x,c)∈acc∨(env.cells.lookup x=some c∧(x,NameKind.free)∈names))∧(∀y∈names,y.2=.free→∃c,(y.1,c)∈cl)∧(∀p∈acc,p∈cl)
 |[],acc,_=>⟨acc,rfl,fun x c h=>.inl h,fun y hy=>absurd hy (by simp),fun p h=>h⟩
 |(name,kind)::r,acc,h=>by
  rw [List.forIn_cons]
  by_cases hk:kind=.free
  ·subst hk
   obtain ⟨c,hc⟩:=h (name,.free) A8 rfl
   obtain ⟨cl,e,h1,h2,h3⟩:=Nm (env:=env) r ((name,c)::acc) (fun y hy=>h y (Bf _ hy))
   refine ⟨cl,?_,fun x c' hm=>?_,fun y hy hf=>?_,fun p hp=>h3 p (Bf _ hp)⟩
   ·rw [←e]
    have:cellOf env name=pure c:=by unfold cellOf;rw [hc]
    simp only [this,beq_self_eq_true,if_true,pure_bind]
   ·rcases h1 x c' hm with q |⟨q1,q2⟩
    ·rcases qa4.mp q with q |q
     ·cases q;exact .inr ⟨hc,A8⟩
     ·exact .inl q
    ·exact .inr ⟨q1,Bf _ q2⟩
   ·rcases qa4.mp hy with q |q
    ·subst q;exact ⟨c,h3 _ A8⟩
    ·exact h2 y q hf
  ·obtain ⟨cl,e,h1,h2,h3⟩:=Nm (env:=env) r acc (fun y hy=>h y (Bf _ hy))
   refine ⟨cl,?_,fun x c' hm=>?_,fun y hy hf=>?_,h3⟩
   ·rw [←e]
    have hk':(kind==NameKind.free)=false:=by simpa using hk
    simp only [hk',B2,if_false,pure_bind]
   ·rcases h1 x c' hm with q |⟨q1,q2⟩
    ·exact .inl q
    ·exact .inr ⟨q1,Bf _ q2⟩
   ·rcases qa4.mp hy with q |q
    ·subst q;exact absurd hf hk
    ·exact h2 y q hf
theorem Qn {scope:Scope} {env:Env} (h:∀y∈scope.names,y.2=.free→∃c,env.cells.lookup y.1=some c):
 ∃cl:List (Str×Addr),closureFor scope env=pure cl∧(∀x c,(x,c)∈cl→env.cells.lookup x=some c∧(x,NameKind.free)∈scope.names)∧(∀y∈scope.names,y.2=.free→∃c,(y.1,c)∈cl):=by
 obtain ⟨cl,e,h1,h2,h3⟩:=Nm (env:=env) scope.names [] h
 refine ⟨cl,?_,fun x c hm=>?_,h2⟩
 ·unfold closureFor
  simp only [bind_pure]
  exact e
 ·rcases h1 x c hm with q |q
  ·exact nomatch q
  ·exact q
theorem WC {scope:Scope} {globals:Addr} {cl:List (Str×Addr)} {qual:Str} {around:Env} {Q:Env→Shared→Prop}
 (h:Q (newEnv scope s.heap.objs.size globals (cellsFrom (s.heap.objs.size+1) scope.names cl) qual none .none (some around) builtinsNs) {s with heap:=pushCells (s.heap.push {cls:=.type "dict",data:=.dict #[]}) scope.names}):
 wpAny M A (newFunctionEnv scope globals cl [] qual none .none (some around)) Q E s:=by
 simp only [newFunctionEnv,Option.isSome_some,if_true]
 refine wpAny_bind (wpAny_alloc ?_)
 refine wpAny_bind (wpAny_layCells _ (fun name kind cells=>by cases hkc:kind==NameKind.cell<;>simp [hkc]) _ _ _ _ ?_)
 simp only [List.forIn_nil,pure_bind]
 refine wpAny_pure ?_
 rw [show ({s with heap:=s.heap.push {cls:=.type "dict",data:=.dict #[]}}:Shared).heap.objs.size=s.heap.objs.size+1 from B9 ..]
 exact h
end
section
variable {prog:Program} {w:World} {A:Around} {R:Result→Shared→Prop} {s:Shared}
theorem WD {elt target iter:Expr} {ifs:List Expr} {scope:Scope} {pos:Pos} {it acc:Value} {env:Env} (I:Nat→Shared→Prop)
 (turn:∀n s,I n s→wpAny (model prog w) A (pyNext it) (fun r s₁=>match r with
  |none=>R (.ok .next) s₁
  |some v=>wpAny (model prog w) A (letOwnedTupleGo target it v) (fun _ s₁'=>wpAny (model prog w) A (assign target env v) (fun _ s₂=>
   wpAny (model prog w) A (forIn ifs true fun c r=>if r=true then do let ok ←isTrue c env (eval c env);pure (ForInStep.yield ok) else pure (ForInStep.yield r)) (fun ok s₃=>
    if ok=true then wpAny (model prog w) A (eval elt env) (fun x s₄=>
     wpAny (model prog w) A (call (.builtin "list.append") [acc,x]) (fun _ s₅=>∃m,m<n∧I m s₅) (notedBy (model prog w) A env fun e s'=>R (.error e) s') s₄) (notedBy (model prog w) A env fun e s'=>R (.error e) s') s₃
    else ∃m,m<n∧I m s₃) (notedBy (model prog w) A env fun e s'=>R (.error e) s') s₂) (notedBy (model prog w) A env fun e s'=>R (.error e) s') s₁') (notedBy (model prog w) A env fun e s'=>R (.error e) s') s₁) (notedBy (model prog w) A env fun e s'=>R (.error e) s') s)
 (n:Nat) (h:I n s):
 codeAny (model prog w) A (.compLoop (.ListComp elt [⟨target,iter,ifs,0⟩] scope pos) 0 it acc env) R s:=by
 refine codeAny_loop rfl I (fun n s hI=>?_) n h
 show wpAny _ A ((compTurn (.ListComp elt [⟨target,iter,ifs,0⟩] scope pos) 0 it acc env).onRaise (fun x=>do noteFrame x env;theTreesLotGoes x)) _ _ s
 refine wpAny_noted ?_
 rw [compTurn_list]
 refine wpAny_bind (wpAny_standAt (wpAny_bind (wpAny_mono (turn n s hI) (fun r s₁ h₁=>?_) fun _ _ h'=>h')))
 cases r with
 |none=>exact wpAny_pure h₁
 |some v=>
  refine wpAny_bind (wpAny_mono h₁ (fun _ s₁' h₁'=>?_) fun _ _ h'=>h')
  refine wpAny_bind (wpAny_mono h₁' (fun _ s₂ h₂=>wpAny_bind (wpAny_mono h₂ (fun ok s₃ h₃=>?_) fun _ _ h'=>h')) fun _ _ h'=>h')
  cases ok with
  |false=>exact wpAny_pure ⟨rfl,h₃⟩
  |true=>
   exact wpAny_bind (wpAny_bind (wpAny_mono h₃ (fun x s₄ h₄=>wpAny_bind (wpAny_mono h₄ (fun _ s₅ h₅=>wpAny_pure (wpAny_pure ⟨rfl,h₅⟩)) fun _ _ h'=>h')) fun _ _ h'=>h'))
end
def JB (X:Cx) (ifs:List Expr) (t:TT):Prop:=∀(pins:List (Addr×Obj)) (s:Shared) (σ:L2.St) (H:Hp) (Q:Bool→Hp→Prop),Inv X pins σ H s→t σ H Q→
 wpAny (model X.prog X.w) X.A (forIn ifs true fun c r=>if r=true then do let ok ←isTrue c X.env (eval c X.env);pure (ForInStep.yield ok) else pure (ForInStep.yield r)) (TP X pins σ Q) X.xe s
theorem WE {X:Cx}:JB X [] (fun _ H Q=>Q true H):=fun _ _ _ H _ I h=>wpAny_tests_nil ⟨H,I,h⟩
theorem WG {X:Cx} {c:Expr} {t:TT} (h:PT X c t):JB X [c] t:=fun pins s σ H Q I q=>wpAny_tests_one (h pins s σ H Q I q)
def Qo (env:Env) (scope:Scope) (C:Addr) (cells:List (Str×Addr)):Env:=
 {scope:=relabel scope env,locals:=C,globals:=env.globals,cells:=cells,qual:=env.qual,func:=none,code:=env.code,frame:=env.frame,builtins:=env.builtins}
def CG (X:Cx) (Nc:List Str) (scope:Scope) (C D:Addr) (cells:List (Str×Addr)) (fp:List Addr) (s₀:Shared) (H₀:Hp) (pins:List (Addr×Obj)):Cx:=
 {X with N:=Nc,s₀:=s₀,H₀:=H₀,env:=Qo X.env scope C cells,outer:=X.stack,stack:=X.stack,ex:=D::fp,fn:=fun x=>scope.names.lookup x==some .cell,pn:=X.pn++pins,xe:=fun _ _=>False}
def BG (cs:List (Option Nat)) (σ:L2.St):L2.St:=cs.map fun o=>o.bind fun j=>(σ[j]?).join
def Sub (σ σ':L2.St):Prop:=σ.length=σ'.length∧∀(i:Nat) v,σ[i]?=some (some v)→σ'[i]?=some (some v)
def K4 (cs:List (Option Nat)) (wi:TI) (g:TG) (tc:TT) (te:TE):TE:=fun σ H Q=>wi σ H fun J H1=>∃W:Nat→Nat→List V→Hp→Prop,(∃n,W 0 n [] H1)∧∀i n acc H,W i n acc H→
 (J.stop i H∧acc.length≤sizeLine∧∀p,H p=none→Q (.ref p) (Ao H p (.lst acc)))∨
 (J.go i H∧acc.length<sizeLine∧∀x H',J.yld i H x H'→g x (BG cs σ) H' fun σ2 H2=>Sub (BG cs σ) σ2∧tc σ2 H2 fun b H3=>if b=true then te σ2 H3 fun y H4=>∃n',n' < n∧W (i+1) n' (acc++[y]) H4 else ∃n',n' < n∧W (i+1) n' acc H3)
theorem Nn:∀(names:List (Str×NameKind)) (h:Heap) (acc:List (Str×Addr)) (x:Str) (c:Addr),(x,c)∈cellsFrom h.objs.size names acc→(x,c)∈acc∨(h.objs.size≤c∧(x,NameKind.cell)∈names∧(pushCells h names).IsCell c none)
 |[],_,_,_,_,m=>.inl m
 |(name,kind)::r,h,acc,x,c,m=>by
  unfold cellsFrom at m
  unfold pushCells
  split at m
  ·rename_i hk
   rw [if_pos hk]
   have hk':kind=.cell:=by simpa using hk
   have e:h.objs.size+1=(h.push {cls:=.type "cell",data:=.cell none}).objs.size:=(B9 ..).symm
   rw [e] at m
   rcases Nn r _ _ x c m with q |⟨q1,q2,q3⟩
   ·rcases qa4.mp q with q |q
    ·cases q
     refine .inr ⟨AF _,by rw [hk'];exact A8,?_⟩
     exact (show (h.push {cls:=.type "cell",data:=.cell none}).IsCell h.objs.size none from ⟨_,A7 _ rfl,rfl⟩).keeps fun b o e=>pushCells_keeps _ _ b o e
    ·exact .inl q
   ·exact .inr ⟨by rw [←e] at q1;exact Nat.le_of_succ_le q1,Bf _ q2,q3⟩
  ·rename_i hk
   rw [if_neg hk]
   rcases Nn r h acc x c m with q |⟨q1,q2,q3⟩
   ·exact .inl q
   ·exact .inr ⟨q1,Bf _ q2,q3⟩
theorem Np:∀(names:List (Str×NameKind)) (h:Heap) (acc:List (Str×Addr)),(∀x c,(x,c)∈acc→c<h.objs.size)→(∀x y c,(x,c)∈acc→(y,c)∈acc→x=y)→
 ∀x y c,(x,c)∈cellsFrom h.objs.size names acc→(y,c)∈cellsFrom h.objs.size names acc→x=y
 |[],_,_,_,i=>i
 |(name,kind)::r,h,acc,lt,i=>by
  unfold cellsFrom
  split
  ·have e:h.objs.size+1=(h.push {cls:=.type "cell",data:=.cell none}).objs.size:=(B9 ..).symm
   rw [e]
   refine Np r _ _ (fun x c m=>?_) (fun x y c m m'=>?_)
   ·rw [←e]
    rcases qa4.mp m with q |q
    ·cases q;exact Kl _
    ·exact Fq (lt x c q)
   ·rcases qa4.mp m with q |q<;>rcases qa4.mp m' with q' |q'
    ·cases q;cases q';rfl
    ·cases q;exact absurd (lt y _ q') (Dw _)
    ·cases q';exact absurd (lt x _ q) (Dw _)
    ·exact i x y c q q'
  ·exact Np r h acc lt i
theorem lookup_mem {α:Type} {l:List (Str×α)} {x:Str} {k:α} (nd:(l.map (·.1)).Nodup) (h:(x,k)∈l):l.lookup x=some k:=by
 induction l with
 |nil=>cases h
 |cons p r ih=>
  obtain ⟨y,j⟩:=p
  rw [Bu,qbV] at nd
  rw [FR]
  rcases qa4.mp h with e |e
  ·cases e;simp
  ·have:x≠y:=by
    rintro rfl
    exact nd.1 (qaT.mpr ⟨(x,k),e,rfl⟩)
   have hb:(x==y)=false:=by simpa using this
   rw [hb]
   exact ih nd.2 e
theorem WH {env:Env} {x n:Str} {j:NameKind} {r:List (Str×NameKind)} {k:NameKind} (h:List.lookup x ((if (j==NameKind.free&&env.scope.kind==.function&&env.kindOf n==some .cell)=true then (n,NameKind.cell) else (n,j))::r)=some k):
 (x=n∧(k=j∨(j=.free∧k=.cell)))∨(x≠n∧List.lookup x r=some k):=by
 by_cases hx:x=n
 ·subst hx
  refine .inl ⟨rfl,?_⟩
  split at h
  ·rename_i hc
   rw [FR] at h
   simp only [beq_self_eq_true] at h
   cases h
   simp only [CP] at hc
   exact .inr ⟨by simpa using hc.1.1,rfl⟩
  ·rw [FR] at h
   simp only [beq_self_eq_true] at h
   cases h
   exact .inl rfl
 ·have hb:(x==n)=false:=by simpa using hx
  refine .inr ⟨hx,?_⟩
  split at h<;>(rw [FR] at h;simp only [hb] at h;exact h)
theorem Qp {scope:Scope} {env:Env} {x:Str} {k:NameKind}:(relabel scope env).names.lookup x=some k→∃k0,scope.names.lookup x=some k0∧(k=k0∨(k0=.free∧k=.cell)):=by
 show (scope.names.map _).lookup x=some k→_
 induction scope.names with
 |nil=>intro h;cases h
 |cons p r ih=>
  obtain ⟨n,j⟩:=p
  intro h
  rw [Bu] at h
  rw [FR]
  rcases WH h with ⟨hx,hk⟩ |⟨hx,hr⟩
  ·subst hx
   simp only [beq_self_eq_true]
   exact ⟨j,rfl,hk⟩
  ·have hb:(x==n)=false:=by simpa using hx
   rw [hb]
   exact ih hr
structure Ig (X:Cx) (scope:Scope) (Nc:List Str) (cs:List (Option Nat)):Prop where
 kind:scope.kind=.function
 loc:∀y∈scope.names,y.2=.local→scope.names.lookup y.1=some .local
 free:∀y∈scope.names,y.2=.free→X.env.kindOf y.1=some .cell∨X.env.kindOf y.1=some .free
 nd:(scope.names.map (·.1)).Nodup
 len:cs.length=Nc.length
 out:∀(i:Nat) (x:Str) (j:Nat),Nc[i]?=some x→cs[i]?=some (some j)→X.N[j]?=some x∧scope.names.lookup x=some .free
theorem WI {a b:Addr} (h:a<b):@LT.lt Nat instLTNat a b:=h
theorem BM {a b:Addr} (h:@LT.lt Nat instLTNat a b):a≠b:=Bg h
theorem Gb {a b:Addr} (h:@LT.lt Nat instLTNat a b):b≠a:=Ne.symm (Bg h)
section
variable {X:Cx} {pins:List (Addr×Obj)} {σ:L2.St} {H:Hp} {s:Shared}
theorem WJ {scope:Scope} {Nc:List Str} {cs:List (Option Nat)} {fp:List Addr} {cl:List (Str×Addr)} (S:Ig X scope Nc cs) (I:Inv X pins σ H s) (f:∀b∈fp,EO X pins H b) (ob:∀b∈fp,∃o,s.heap.get? b=some o)
 (hcl:∀x c,(x,c)∈cl→X.env.cells.lookup x=some c∧(x,NameKind.free)∈scope.names) (hcl2:∀y∈scope.names,y.2=.free→∃c,(y.1,c)∈cl) {s3:Shared} (e3:s3={s with heap:=s.heap.push {cls:=.type "list",data:=.seq ([]:List Value).toArray}}):
 Inv (CG X Nc scope s3.heap.objs.size s.heap.objs.size (cellsFrom (s3.heap.objs.size+1) scope.names cl) fp s3 H pins) [] (BG cs σ) H
  {s3 with heap:=pushCells (s3.heap.push {cls:=.type "dict",data:=.dict #[]}) scope.names}:=by
 have k3:∀b o,s.heap.get? b=some o→s3.heap.get? b=some o:=fun b o e=>by subst e3;exact AB _ e
 have Ld:s3.heap.objs.size=s.heap.objs.size+1:=by subst e3;exact B9 ..
 have szd:(s3.heap.push {cls:=.type "dict",data:=.dict #[]}).objs.size=s3.heap.objs.size+1:=B9 ..
 have k34:∀b o,s3.heap.get? b=some o→(pushCells (s3.heap.push {cls:=.type "dict",data:=.dict #[]}) scope.names).get? b=some o:=fun b o e=>pushCells_keeps _ _ b o (AB _ e)
 have k4:∀b o,s.heap.get? b=some o→(pushCells (s3.heap.push {cls:=.type "dict",data:=.dict #[]}) scope.names).get? b=some o:=fun b o e=>k34 b o (k3 b o e)
 have cllt:∀x c,(x,c)∈cl→c<s.heap.objs.size:=fun x c m=>by
  obtain ⟨v,q⟩:=I.cell x c (hcl x c m).1
  exact q.lt
 have cm:∀x c,(cellsFrom (s3.heap.objs.size+1) scope.names cl).lookup x=some c→(x,c)∈cl∨(s3.heap.objs.size+1≤c∧(x,NameKind.cell)∈scope.names∧(pushCells (s3.heap.push {cls:=.type "dict",data:=.dict #[]}) scope.names).IsCell c none):=fun x c e=>by
  have m:=mem_of_lookup e
  rw [←szd] at m
  have:=Nn scope.names _ cl x c m
  rw [szd] at this
  exact this
 have frs_lt:∀b∈frs X.stack,b<s.heap.objs.size:=fun b hb=>by
  obtain ⟨_,o,ho,_⟩:=I.stack.mem hb
  exact AE ho
 have nfs:∀b,b≠X.env.locals→b∉X.fs→b∉frs X.stack:=fun b h1 h2 hb=>by
  rcases qa4.mp (I.stkSub b hb) with q |q
  ·exact h1 q
  ·exact h2 q
 have ok:(CG X Nc scope s3.heap.objs.size s.heap.objs.size (cellsFrom (s3.heap.objs.size+1) scope.names cl) fp s3 H pins).Ok:=by
  refine ⟨I.ok.mod,S.kind,I.ok.glob,I.ok.blt,AF _,fun x y c e1 e2=>?_,fun x hx=>?_,fun x c hf e=>?_,I.ok.hd,I.ok.frames,.inl rfl,fun b hb=>?_,fun b o e=>?_,?_,fun b o e hb=>?_,fun b hb=>?_,?_,I.stkFree⟩
  ·have m1:=mem_of_lookup e1
   have m2:=mem_of_lookup e2
   have m1':(x,c)∈cellsFrom (s3.heap.push {cls:=.type "dict",data:=.dict #[]}).objs.size scope.names cl:=by rw [szd];exact m1
   have m2':(y,c)∈cellsFrom (s3.heap.push {cls:=.type "dict",data:=.dict #[]}).objs.size scope.names cl:=by rw [szd];exact m2
   exact Np scope.names (s3.heap.push {cls:=.type "dict",data:=.dict #[]}) cl (fun x c m=>by rw [szd,Ld];exact A0 (cllt x c m) (by omega))
    (fun x y c a b=>I.ok.inj x y c (hcl x c a).1 (hcl y c b).1) x y c m1' m2'
  ·have:∃k,(relabel scope X.env).names.lookup x=some k∧(k=.cell∨k=.free):=by
    rcases hx with q |q
    ·exact ⟨_,q,.inl rfl⟩
    ·exact ⟨_,q,.inr rfl⟩
   obtain ⟨k,e1,hk⟩:=this
   obtain ⟨k0,e0,hk0⟩:=Qp e1
   refine qbT.mp (PySem.W.cellsFrom_some _ _ _ ?_)
   have:k0=.cell∨k0=.free:=by
    rcases hk0 with q |⟨q,_⟩
    ·rw [←q];exact hk
    ·exact .inr q
   rcases this with q |q
   ·subst q;exact .inl e0
   ·subst q
    obtain ⟨c,hc⟩:=hcl2 _ (mem_of_lookup e0) rfl
    refine .inr ?_
    cases hl:cl.lookup x with
    |some c'=>rfl
    |none=>
     exfalso
     have:∀p∈cl,p.1≠x:=fun p hp e=>by
      have h2:=List.lookup_eq_none_iff.mp hl p hp
      rw [e] at h2
      simp at h2
     exact this _ hc rfl
  ·have hk:scope.names.lookup x=some .cell:=by
    have:(scope.names.lookup x==some NameKind.cell)=true:=hf
    simpa using this
   rcases cm x c e with q |⟨q1,_,_⟩
   ·have:=lookup_mem S.nd (hcl x c q).2
    rw [hk] at this
    cases this
   ·exact Nat.le_of_succ_le q1
  ·rcases qa4.mp hb with q |q
   ·subst q
    refine ⟨BM (show _<s3.heap.objs.size by omega),fun x c e=>?_⟩
    rcases cm x c e with q |⟨q1,_,_⟩
    ·exact Bg (cllt x c q)
    ·exact Gb (A0 (by omega) q1)
   ·obtain ⟨o,ho⟩:=ob b q
    have hlt:=WI (AE ho)
    refine ⟨BM (show _<s3.heap.objs.size by omega),fun x c e=>?_⟩
    rcases cm x c e with q2 |⟨q1,_,_⟩
    ·exact (f b q).2.2.2.2.1 x c (hcl x c q2).1
    ·exact Gb (A0 (by omega) q1)
  ·obtain ⟨h1,h2⟩:=I.bs b o e
   exact ⟨k3 b o h1,h2⟩
  ·show X.base.objs.size≤s3.heap.objs.size
   have:=Ca I.ok.bsz I.sz
   omega
  ·obtain ⟨h1,h2⟩:=I.bs b o e
   rcases qa4.mp hb with q |q
   ·exact absurd q (BM (AE h1))
   ·rcases (f b q).2.2.2.1 with z |z
    ·exact I.ok.noex b o e z
    ·exact absurd (A0 (AE (I.ok.bs b o e).1) z) (Dw _)
  ·rcases qa4.mp hb with q |q
   ·subst q
    intro z
    exact absurd (frs_lt _ z) (Dw _)
   ·exact nfs b (f b q).2.1 (f b q).2.2.1
  ·exact I.stack.of_keeps fun b o e _=>⟨o,k3 b o e,rfl⟩
 refine ⟨ok,rfl,?_,?_,?_,fun x c e=>?_,?_,fun x c e=>?_,fun p hp=>?_,I.hok.kept k4,?_⟩
 ·show AllBare s3.gens
  subst e3;exact I.bare
 ·exact Un.kept k34
 ·refine ⟨fun _=>none,(Heap.Ns.new s3.heap (.type "dict")).keeps (pushCells_keeps _ _),fun i x v e1 e2 e3'=>?_⟩
  unfold BG at e2
  rw [Ck] at e2
  cases ec:cs[i]? with
  |none=>rw [ec] at e2;cases e2
  |some o=>
   rw [ec] at e2
   cases o with
   |none=>cases e2
   |some j=>
    simp only [FT,Option.bind_some,Option.some.injEq] at e2
    have e2':σ[j]?=some (some v):=by
     cases ej:σ[j]? with
     |none=>rw [ej] at e2;cases e2
     |some w=>rw [ej] at e2;simp at e2;rw [e2]
    obtain ⟨hN,hfr⟩:=S.out i x j e1 ec
    have hfm:=mem_of_lookup hfr
    have hkind:=S.free _ hfm rfl
    obtain ⟨m,hn,hl⟩:=I.loc
    obtain ⟨u,r,look⟩:=hl j x v hN e2' (by
     rcases hkind with q |q
     ·exact .inr (.inl q)
     ·exact .inr (.inr q))
    refine ⟨u,r,.inr ?_⟩
    rcases look with ⟨q,_⟩ |⟨_,c,ec',hc⟩
    ·rcases hkind with z |z<;>(rw [q] at z;cases z)
    ·obtain ⟨c',hc'⟩:=hcl2 _ hfm rfl
     have hv:(CG X Nc scope s3.heap.objs.size s.heap.objs.size (cellsFrom (s3.heap.objs.size+1) scope.names cl) fp s3 H pins).env.kindOf x=some .cell∨(CG X Nc scope s3.heap.objs.size s.heap.objs.size (cellsFrom (s3.heap.objs.size+1) scope.names cl) fp s3 H pins).env.kindOf x=some .free:=by
      rcases e3' with z |z |z
      ·obtain ⟨k0,a1,a2⟩:=Qp z
       rw [hfr] at a1
       cases a1
       rcases a2 with a2 |⟨_,a2⟩<;>cases a2
      ·exact .inl z
      ·exact .inr z
     refine ⟨hv,c,?_,hc.keeps k4⟩
     obtain ⟨c2,h2⟩:=ok.has x hv
     rw [h2]
     rcases cm x c2 h2 with q |⟨_,q,_⟩
     ·rw [←ec',(hcl x c2 q).1]
     ·have:=lookup_mem S.nd q
      rw [hfr] at this
      cases this
 ·rcases cm x c e with q |⟨_,_,q⟩
  ·obtain ⟨v,z⟩:=I.cell x c (hcl x c q).1
   exact ⟨v,z.keeps k4⟩
  ·exact ⟨none,q⟩
 ·exact I.hok.fresh (show s.heap.objs.size≤s3.heap.objs.size by omega)
 ·rcases cm x c e with q |⟨q,_,_⟩
  ·exact I.freeC x c (hcl x c q).1
  ·exact I.hok.fresh (by omega)
 ·have hp':p∈X.pn++pins:=by
   rcases qaW.mp hp with q |q
   ·exact q
   ·exact absurd q (by simp)
  obtain ⟨a1,a2,a3,a4,a5⟩:=I.pin p hp'
  refine ⟨k4 _ _ a1,a2,?_,nfs p.1 a3 a4,a5⟩
  show p.1≠s3.heap.objs.size
  exact BM (A0 (AE a1) (by omega))
 ·show (BG cs σ).length=Nc.length
  simp [BG,S.len]
end
section
variable {X:Cx} {elt tg iter:Expr} {ifs:List Expr} {scope:Scope} {pos:Pos} {Nc:List Str} {cs:List (Option Nat)} {wi:TI} {g:TG} {tc:TT} {te:TE}
theorem WK {pins:List (Addr×Obj)} {σ:L2.St} {H H':Hp} {s s3 s':Shared} {fp:List Addr} {C:Addr} {cells:List (Str×Addr)} {po:List (Addr×Obj)} {σc:L2.St} {acc:List V} {its:List Value} {n:Nat}
 (I:Inv X pins σ H s) (f:∀b∈fp,EO X pins H b) (e3:s3={s with heap:=s.heap.push {cls:=.type "list",data:=.seq ([]:List Value).toArray}}) (hC:C=s3.heap.objs.size)
 (I':Inv (CG X Nc scope C s.heap.objs.size cells fp s3 H pins) po σc H' s') (hD:H' s.heap.objs.size=none) (hl:acc.length≤sizeLine) (rv:Vals acc its) (ho:s'.heap.get? s.heap.objs.size=some {cls:=.type "list",data:=.seq its.toArray n})
 {h':Heap} (sb:Heap.SameBut C s'.heap h'):Inv X pins σ (Ao H' s.heap.objs.size (.lst acc)) {s' with heap:=h'}:=by
 have k3:∀b o,s.heap.get? b=some o→s3.heap.get? b=some o:=fun b o e=>by subst e3;exact AB _ e
 have Ld:s3.heap.objs.size=s.heap.objs.size+1:=by subst e3;exact B9 ..
 have DF:∀b o,s.heap.get? b=some o→b≠s.heap.objs.size:=fun b o e=>BM (AE e)
 have neC:∀b o,s.heap.get? b=some o→b≠C:=fun b o e=>by rw [hC];exact BM (A0 (AE e) (by omega))
 have DC:s.heap.objs.size≠C:=by rw [hC];exact BM (by omega)
 have U:Un (frs X.stack) (s.heap.objs.size::fp) H H' s3.heap s'.heap:=I'.base
 have exn:∀b o,s.heap.get? b=some o→b∉fp→b∉s.heap.objs.size::fp:=fun b o e hx hb=>by
  rcases qa4.mp hb with z |z
  ·exact DF b o e z
  ·exact hx z
 have neT:∀b u,H' b=some u→b≠s.heap.objs.size:=fun b u e=>BE e hD
 have hCn:H' C=none:=I'.free
 refine I.call' (s':={s' with heap:=h'}) (ch:=fp) ?_ ?_ ?_ I'.bare ?_
 ·show s'.os=s.os
  have:=I'.os
  rw [this]
  show s3.os=s.os
  subst e3;rfl
 ·refine ⟨fun b o e nn hb hx=>?_,fun b o e nn hb hx=>?_,fun b o e nn hx=>?_,fun b o e hx=>?_,fun b xs e=>?_,fun b o u e=>?_,fun b ps e=>?_⟩
  ·exact (sb.2 b (neC b o e)).trans (U.keep b o (k3 b o e) nn hb (exn b o e hx))
  ·obtain ⟨sl,z⟩:=U.slot b o (k3 b o e) nn hb (exn b o e hx)
   exact ⟨sl,(sb.2 b (neC b o e)).trans z⟩
  ·rw [Au (DF b o e)]
   exact U.free b o (k3 b o e) nn (exn b o e hx)
  ·obtain ⟨o',z⟩:=U.there b o (k3 b o e) (exn b o e hx)
   exact ⟨o',(sb.2 b (neC b o e)).trans z⟩
  ·have z:=U.tups b xs e
   rw [Au (neT b _ z)]
   exact z
  ·have z:=U.frzs b o u e
   rw [Au (neT b _ z)]
   exact z
  ·obtain ⟨more,z⟩:=U.tbls b ps e
   exact ⟨more,by rw [Au (neT b _ z)];exact z⟩
 ·intro b u e
  by_cases hb:b=s.heap.objs.size
  ·subst hb
   rw [B3] at e
   cases e
   exact ⟨hl,its,n,rv,(sb.2 _ DC).trans ho⟩
  ·rw [Au hb] at e
   refine (I'.hok b u e).stay (fun c v hc z=>(sb.2 c ?_).trans z) (fun c z=>by rw [Au (neT c _ z)];exact z) fun c xs z=>by rw [Au (neT c _ z)];exact z
   rcases hc with rfl |hc
   ·exact BE e hCn
   ·exact BE hc hCn
 ·intro b hb
  obtain ⟨_,f1,_,f3,f4,f5⟩:=f b hb
  exact ⟨f3,f1,f4,f5⟩
inductive Qq (W:Nat→Nat→List V→Hp→Prop) (Xc:Cx) (σc:L2.St) (tn:Nat→Heap→Prop) (fp:List Addr) (Da:Addr) (n:Nat) (s':Shared):Prop where
 |mk (i:Nat) (acc:List V) (H':Hp) (its:List Value) (k:Nat) (w:W i n acc H') (ii:Inv Xc [] σc H' s') (st:tn i s'.heap) (fr:∀b∈fp,H' b=none) (hD:H' Da=none) (rv:Vals acc its) (ho:s'.heap.get? Da=some {cls:=.type "list",data:=.seq its.toArray k}):Qq W Xc σc tn fp Da n s'
theorem Qr {use:Option (Value→Sem Unit)} {QQ:Value→Shared→Prop} {ppos:Pos} {pins:List (Addr×Obj)} {s:Shared} {σ:L2.St} {H:Hp} {Q:VK} (hcalm:X.calm=true) (S:Ig X scope Nc cs) (hi:PI X tg iter wi)
 (hb:∀(C D:Addr) (cells:List (Str×Addr)) (fp:List Addr) (s₀:Shared) (H₀:Hp) (pins:List (Addr×Obj)),PG (CG X Nc scope C D cells fp s₀ H₀ pins) tg g∧JB (CG X Nc scope C D cells fp s₀ H₀ pins) ifs tc∧PE (CG X Nc scope C D cells fp s₀ H₀ pins) elt te)
 (hsf:∀x,foldedSetIterable iter X.env x=pure x) (I:Inv X pins σ H s) (h:K4 cs wi g tc te σ H Q)
 (A1:∀(s6:Shared) (C D:Addr) (H7:Hp) (m6:Str→Option Value),s6.heap.Ns C m6→H7 C=none→X.s₀.heap.objs.size≤C→C≠X.env.locals→(∀x c,X.env.cells.lookup x=some c→c≠C)→(∀p∈X.pn++pins,p.1≠C)→
  (∀h',Heap.SameBut C s6.heap h'→Inv X pins σ H7 {s6 with heap:=h'})→Q (.ref D) H7→compPost (model X.prog X.w) X.A X.xe use QQ (.ref D) C (.ok .next) s6):
 wpAny (model X.prog X.w) X.A (comprehension (.ListComp elt [⟨tg,iter,ifs,0⟩] scope pos) scope X.env ppos (newList []) false (eval iter X.env) use) QQ X.xe s:=by
 obtain ⟨cl,hclos,hcl,hcl2⟩:=Qn (scope:=scope) (env:=X.env) fun y hy hf=>I.ok.has y.1 (S.free y hy hf)
 refine wpAny_comprehension_free (use:=use) rfl hsf hclos S.kind S.loc (Ax (hi pins s σ H _ I h) fun xv s1 h1=>Ax h1 fun itv s2 h2=>?_)
 obtain ⟨it,fp,tn,J,H2,e,I2,T,st2,f2,W,⟨n0,w0⟩,turn⟩:=h2
 subst e
 refine wpAny_newObj_type ?_
 generalize e3:({s2 with heap:=s2.heap.push {cls:=.type "list",data:=.seq ([]:List Value).toArray}}:Shared)=s3
 refine WC ?_
 have ob2:∀b∈fp,∃o,s2.heap.get? b=some o:=fun b hb=>let ⟨o,e,_⟩:=T.obj _ _ st2 b hb;⟨o,e⟩
 have I4:=WJ (fp:=fp) (cl:=cl) S I2 f2 ob2 hcl hcl2 e3.symm
 generalize e4:({s3 with heap:=pushCells (s3.heap.push {cls:=.type "dict",data:=.dict #[]}) scope.names}:Shared)=s4 at I4
 generalize ecl:cellsFrom (s3.heap.objs.size+1) scope.names cl=cells at I4
 obtain ⟨pg,pt,pe⟩:=hb s3.heap.objs.size s2.heap.objs.size cells fp s3 H2 pins
 generalize eX:CG X Nc scope s3.heap.objs.size s2.heap.objs.size cells fp s3 H2 pins=Xc at I4 pg pt pe
 have xP:Xc.prog=X.prog:=by subst eX;rfl
 have xw:Xc.w=X.w:=by subst eX;rfl
 have xK:Xc.K=X.K:=by subst eX;rfl
 have xA:Xc.A=X.A:=by subst eX;rfl
 have xE:Xc.env=Qo X.env scope s3.heap.objs.size cells:=by subst eX;rfl
 have xL:Xc.env.locals=s3.heap.objs.size:=by subst eX;rfl
 have xe:Xc.xe=fun _ _=>False:=by subst eX;rfl
 have xc:Xc.calm=true:=by subst eX;exact hcalm
 have xex:Xc.ex=s2.heap.objs.size::fp:=by subst eX;rfl
 have okc:=I4.ok
 have k3:∀b o,s2.heap.get? b=some o→s3.heap.get? b=some o:=fun b o e=>by subst e3;exact AB _ e
 have Ld:s3.heap.objs.size=s2.heap.objs.size+1:=by subst e3;exact B9 ..
 have k34:∀b o,s3.heap.get? b=some o→s4.heap.get? b=some o:=fun b o e=>by subst e4;exact pushCells_keeps _ _ b o (AB _ e)
 have hDC:s2.heap.objs.size≠Xc.env.locals:=by rw [xL];exact BM (by omega)
 have hDcell:∀x c,Xc.env.cells.lookup x=some c→c≠s2.heap.objs.size:=fun x c e=>(okc.exf _ (by rw [xex];exact A8)).2 x c e
 have hDpin:∀p∈Xc.pn,p.1≠s2.heap.objs.size:=fun p hp=>by
  have hp':p∈X.pn++pins:=by subst eX;exact hp
  exact BM (AE (I2.pin p hp').1)
 have hDfp:s2.heap.objs.size∉fp:=fun hm=>by
  obtain ⟨o,e⟩:=ob2 _ hm
  exact absurd (AE e) (Dw _)
 have hDex:s2.heap.objs.size∈Xc.ex:=by rw [xex];exact A8
 have hDfs:s2.heap.objs.size∉Xc.fs:=okc.exfs _ hDex
 have fpC:∀{po:List (Addr×Obj)} {H':Hp},(∀b∈fp,H' b=none)→(∀p∈po,p.1=s2.heap.objs.size)→∀b∈fp,EO Xc po H' b:=fun {po H'} hn hp b hb=>by
  have hbx:b∈Xc.ex:=by rw [xex];exact Bf _ hb
  refine ⟨hn b hb,(okc.exf b hbx).1,okc.exfs b hbx,.inl hbx,(okc.exf b hbx).2,fun p hpp=>?_⟩
  rcases qaW.mp hpp with z |z
  ·have hp':p∈X.pn++pins:=by subst eX;exact z
   exact (f2 b hb).2.2.2.2.2 p hp'
  ·rw [hp p z]
   intro e
   exact hDfp (e ▸ hb)
 have loop:∀sx,sx=s4→codeAny (model X.prog X.w) X.A (.compLoop (.ListComp elt [⟨tg,iter,ifs,0⟩] scope pos) 0 (.ref it) (.ref s2.heap.objs.size) Xc.env)
  (compPost (model X.prog X.w) X.A X.xe use QQ (.ref s2.heap.objs.size) s3.heap.objs.size) sx:=by
  rintro sx rfl
  refine WD (Qq W Xc (BG cs σ) tn fp s2.heap.objs.size) ?_ n0
   ⟨0,[],H2,[],0,w0,I4,?_,fun b hb=>(f2 b hb).1,I2.hok.fresh (AF _),.nil,?_⟩
  ·rintro n s5 ⟨i,acc,H5,its,k,w5,I5,st5,fr5,hD5,rv5,ho5⟩
   have pin1:Inv Xc [(s2.heap.objs.size,{cls:=.type "list",data:=.seq its.toArray k})] (BG cs σ) H5 s5:=I5.pins_of fun p hp=>by
    rw [qaH] at hp
    subst hp
    exact ⟨ho5,hD5,hDC,hDfs,fun v z=>by cases z⟩
   have pone:∀p∈[((s2.heap.objs.size:Addr),({cls:=.type "list",data:=.seq its.toArray k}:Obj))],p.1=s2.heap.objs.size:=fun p hp=>by
    rw [qaH] at hp;subst hp;rfl
   rcases turn i n acc H5 w5 with ⟨stop,hlen,qn⟩ |⟨go,hlen,step⟩
   ·have z1:=T.done Xc xP xw xK xc i _ s5 (BG cs σ) H5 (fun _ _=>False) pin1 (fpC fr5 pone) st5 stop
    rw [xA] at z1
    refine wpAny_mono z1 (fun r s6 z1_=>?_) fun _ _ z=>False.elim z
    obtain ⟨hr,I6⟩:=z1_
    subst hr
    obtain ⟨m6,hn6,_⟩:=I6.loc
    obtain ⟨ho6,hD6,_⟩:=I6.pin _ (Dk _ A8)
    rw [xL] at hn6
    have lt2:∀b,b<s2.heap.objs.size→b≠s3.heap.objs.size:=fun b hb=>BM (A0 hb (by omega))
    refine A1 s6 s3.heap.objs.size s2.heap.objs.size (Ao H5 s2.heap.objs.size (.lst acc)) m6 hn6 ?_ (Ca I2.sz (by omega)) ?_ ?_ ?_ ?_ (qn _ hD6)
    ·rw [Au (Gb (by omega))]
     have:=I6.free
     rw [xL] at this
     exact this
    ·obtain ⟨m2,hn2,_⟩:=I2.loc
     exact Ne.symm (lt2 _ hn2.lt)
    ·intro x c hx
     obtain ⟨v,hv⟩:=I2.cell x c hx
     obtain ⟨o,ho,_⟩:=hv
     exact lt2 _ (AE ho)
    ·intro p hp
     exact lt2 _ (AE (I2.pin p hp).1)
    ·intro h' sb
     subst eX
     exact WK I2 f2 e3.symm rfl I6 hD6 hlen rv5 ho6 sb
   ·have z1:=T.item Xc xP xw xK xc i _ s5 (BG cs σ) H5 (fun _ _=>False) pin1 (fpC fr5 pone) st5 go
    rw [xA] at z1
    refine wpAny_mono z1 (fun r s6 z2_=>?_) fun _ _ z=>False.elim z
    obtain ⟨u,hr,h6⟩:=z2_
    subst hr
    refine wpAny_mono h6 (fun _ s7 z3_=>?_) fun _ _ z=>False.elim z
    obtain ⟨x,H7,I7,r7,y7,st7,fr7⟩:=z3_
    have I7':=I7.pinned (fp:=fp) (fpC fr7 pone) (T.obj _ _ st7)
    have z2:=pg _ s7 (BG cs σ) H7 x u _ I7' r7 (step x H7 y7)
    rw [xP,xw,xA,xe] at z2
    refine wpAny_mono z2 (fun _ s8 z4_=>?_) fun _ _ z=>False.elim z
    obtain ⟨σ8,H8,I8,sub8,q8⟩:=z4_
    have z3:=pt _ s8 σ8 H8 _ I8 q8
    rw [xP,xw,xA,xe] at z3
    refine wpAny_mono z3 (fun ok s9 z5_=>?_) fun _ _ z=>False.elim z
    obtain ⟨H9,I9,q9⟩:=z5_
    have back:∀{sy:Shared} {Hy:Hp},Inv Xc ([(s2.heap.objs.size,{cls:=.type "list",data:=.seq its.toArray k})]++Je fp s7.heap) σ8 Hy sy→
     Inv Xc [] (BG cs σ) Hy sy∧tn (i+1) sy.heap∧(∀b∈fp,Hy b=none)∧Hy s2.heap.objs.size=none∧sy.heap.get? s2.heap.objs.size=some {cls:=.type "list",data:=.seq its.toArray k}:=fun {sy Hy} Iy=>by
     obtain ⟨ho,hD,_⟩:=Iy.pin _ (Dk _ (HC _ A8))
     refine ⟨(Iy.pins_of fun p hp=>absurd hp (by simp)).weak (sub8.1) (fun j v z=>sub8.2 j v z),T.keep _ _ _ st7 fun b hb o e=>(Iy.pin (b,o) (Dk _ (Dk _ (Kz hb e)))).1,fun b hb=>?_,hD,ho⟩
     obtain ⟨o,e,_⟩:=T.obj _ _ st7 b hb
     exact (Iy.pin (b,o) (Dk _ (Dk _ (Kz hb e)))).2.1
    cases ok with
    |false=>
     simp only [B2,if_false] at q9 ⊢
     obtain ⟨n',hn',w'⟩:=q9
     obtain ⟨a1,a2,a3,a4,a5⟩:=back I9
     exact ⟨n',hn',i+1,acc,H9,its,k,w',a1,a2,a3,a4,rv5,a5⟩
    |true=>
     simp only [if_true] at q9 ⊢
     have z4:=pe _ s9 σ8 H9 _ I9 q9
     rw [xP,xw,xA,xe] at z4
     refine wpAny_mono z4 (fun y s10 z6_=>?_) fun _ _ z=>False.elim z
     obtain ⟨yv,H10,I10,r10,n',hn',w'⟩:=z6_
     obtain ⟨a1,a2,a3,a4,a5⟩:=back I10
     have hlen':=rv5.length
     refine wpAny_list_append_plain ⟨k,a5⟩ (fun h' ⟨k',hl'⟩ sb=>?_) (by rw [A9];omega)
     have tu:Inv Xc [] (BG cs σ) H10 {s10 with heap:=h'}:=a1.turned (t':=s10.toks) (it:=s2.heap.objs.size) (fun b o hb e=>(sb.2 b hb).trans e) a4 hDC (.inl hDex) hDcell (fun p hp=>by
      rcases qaW.mp hp with z |z
      ·exact hDpin p z
      ·exact absurd z (by simp))
     refine ⟨n',hn',i+1,acc++[yv],H10,its++[y],k',w',tu,T.keep _ _ _ a2 (fun b hb o e=>(sb.2 b (fun z=>hDfp (z ▸ hb))).trans e),a3,a4,rv5.append (.cons r10 .nil),?_⟩
     rw [hl']
     simp
  ·exact T.keep _ _ _ st2 fun b hb o e=>k34 b o (k3 b o e)
  ·refine k34 _ _ ?_
   subst e3
   exact A7 _ rfl
 have A1:=loop s4 rfl
 have hst4:tn 0 s4.heap:=T.keep _ _ _ st2 fun b hb o e=>k34 b o (k3 b o e)
 rw [xE] at A1
 have:=codeAny_compStart_list A1 (T.self X.A 0 s4 _ _ hst4 A1)
 exact this
theorem WL (hcalm:X.calm=true) (S:Ig X scope Nc cs) (hi:PI X tg iter wi)
 (hb:∀(C D:Addr) (cells:List (Str×Addr)) (fp:List Addr) (s₀:Shared) (H₀:Hp) (pins:List (Addr×Obj)),PG (CG X Nc scope C D cells fp s₀ H₀ pins) tg g∧JB (CG X Nc scope C D cells fp s₀ H₀ pins) ifs tc∧PE (CG X Nc scope C D cells fp s₀ H₀ pins) elt te)
 (hsf:∀x,foldedSetIterable iter X.env x=pure x:=by intro _;rfl):PE X (.ListComp elt [⟨tg,iter,ifs,0⟩] scope pos) (K4 cs wi g tc te):=by
 intro pins s σ H Q I h
 rw [eval_ListComp]
 exact Qr (use:=none) hcalm S hi hb hsf I h fun s6 C D H7 m6 hn _ _ _ _ _ inv q=>⟨m6,hn,fun h' sb=>⟨.ref D,H7,inv h' sb,rfl,q⟩⟩
end
def noErr {α:Type}:Out α→Out α
 |.ok a h=>.ok a h
 |_=>.stuck
@[simp] theorem Zc7 {α:Type} (a:α) (h:HD):noErr (.ok a h)=.ok a h:=rfl
theorem Qs {α β γ δ:Type} {K:PySem.W.Frag} {R:List Addr→Hp→α→β→Prop} {R':List Addr→Hp→γ→δ→Prop} {m:List Addr} {H:Hp} {E:XK} {Q:δ→Hp→Prop} {Q':β→Hp→Prop} {o:Out α} {k:α→HD→Out γ}
 (h:Post K R' m H E Q ((noErr o).bind k)) (f:∀a h1 v m1 H1,o=.ok a h1→m <+:m1→Kp H H1→HR K m1 h1 H1→R m1 H1 a v→Post K R' m1 H1 E Q (k a h1)→Q' v H1):Post K R m H E0 Q' o:=by
 cases o with
 |ok a h1=>exact fun v m1 H1 p kk hr r=>f a h1 v m1 H1 rfl p kk hr r (Post.ahead p kk h)
 |err C fs h1=>exact False.elim h
 |stuck=>exact False.elim h
def Cn (cs:List (Option Nat)) (ρ:Aj):Aj:=cs.map fun o=>o.bind fun j=>(ρ[j]?).join
theorem join_some {α:Type} {l:List (Option α)} {j:Nat} {a:α}:(l[j]?).join=some a↔l[j]?=some (some a):=by
 cases h:l[j]? with
 |none=>simp
 |some o=>simp
theorem ER.comp {K:PySem.W.Frag} {m:List Addr} {H:Hp} {ρ:Aj} {σ:L2.St} (cs:List (Option Nat)) (er:ER K m H ρ σ):ER K m H (Cn cs ρ) (BG cs σ):=by
 refine ⟨by simp [Cn,BG],fun i d e=>?_⟩
 unfold Cn at e
 rw [Ck] at e
 cases ec:cs[i]? with
 |none=>rw [ec] at e;cases e
 |some o=>
  rw [ec] at e
  cases o with
  |none=>cases e
  |some j=>
   simp only [FT,Option.bind_some,Option.some.injEq] at e
   obtain ⟨v,e1,r⟩:=er.2 j d (join_some.mp e)
   refine ⟨v,?_,r⟩
   unfold BG
   rw [Ck,ec]
   simp only [FT,Option.bind_some,Option.some.injEq]
   exact join_some.mpr e1
theorem Sub.set {cs:List (Option Nat)} {σ:L2.St} {σ':L2.St} {i:Nat} {v:V} (h:cs[i]?=some none) (s:Sub (BG cs σ) σ'):Sub (BG cs σ) (σ'.set i (some v)):=by
 refine ⟨by rw [s.1];simp,fun j w e=>?_⟩
 have hj:i≠j:=by
  rintro rfl
  unfold BG at e
  rw [Ck,h] at e
  cases e
 rw [BV hj]
 exact s.2 j w e
theorem Sub.refl (σ:L2.St):Sub σ σ:=⟨rfl,fun _ _ h=>h⟩
def JC (K:PySem.W.Frag) (cs:List (Option Nat)) (gg:TG) (sg:MG):Prop:=
 ∀m H d v ρ σ0 ρ' Q,DV K m H d v→ER K m H ρ (BG cs σ0)→sg d ρ=some ρ'→(∀σ',Sub (BG cs σ0) σ'→ER K m H ρ' σ'→Q σ' H)→gg v (BG cs σ0) H Q
theorem Dr {K:PySem.W.Frag} {cs:List (Option Nat)} {i:Nat} (h:cs[i]?=some none):JC K cs (De i) (A5 i):=fun m H d v ρ σ0 ρ' Q r er e q=>by
 simp only [A5,Option.some.injEq] at e
 subst e
 exact q _ ((Sub.refl _).set h) (er.set r)
theorem Gc {K:PySem.W.Frag} {cs:List (Option Nat)} {i j:Nat} (h:cs[i]?=some none) (h':cs[j]?=some none):JC K cs (Gz K 2 (DX (De i) (DX (De j) Gy))) (CD i j):=fun m H d v ρ σ0 ρ' Q r er e q=>by
 unfold CD at e
 split at e
 ·rename_i a b
  cases e
  simp only [DV,DVs] at r
  obtain ⟨p,vs,rfl,hp,v1,w1,rfl,r1,v2,w2,rfl,r2,rfl⟩:=r
  exact ⟨p,_,rfl,SqT.of hp,rfl,v1,_,rfl,v2,_,rfl,rfl,q _ (((Sub.refl _).set h).set h') ((er.set r1).set r2)⟩
 ·cases e
abbrev K5 (X:Cx) (E:XK) (ifs:List Expr) (t:MT):Prop:=JB X ifs (HU X.K E t)
def Br:MT:=fun _ h=>.ok true h
theorem Co {X:Cx} {E:XK}:K5 X E [] Br:=fun pins s σ H Q I z1_=>by obtain ⟨m,ρ,h,hr,er,p⟩:=z1_;exact (WE pins s σ H Q I (p true m H (AQ _) (.refl _) hr rfl))
theorem K6 {X:Cx} {E:XK} {c:Expr} {t:MT} (h:Ej X E c t):K5 X E [c] t:=WG h
open Classical in
noncomputable def DI (src:Bi) (items:List D) (sg:MG) (t:MT) (f:ME) (ρc:Aj):List D→HD→Out (List D)
 |[],h=>if By src items h then .ok [] h else .stuck
 |d::ds,h=>if By src items h then match sg d ρc with
   |none=>.stuck
   |some ρ1=>(noErr (t ρ1 h)).bind fun b h1=>if b=true then (noErr (f ρ1 h1)).bind fun y h2=>(DI src items sg t f ρc ds h2).bind fun ys h3=>.ok (y::ys) h3 else DI src items sg t f ρc ds h1
  else .stuck
noncomputable def AX (cs:List (Option Nat)) (it:MI) (sg:MG) (t:MT) (f:ME):ME:=fun ρ h=>(it ρ h).bind fun x h1=>if x.1.length≤sizeLine then (DI x.2 x.1 sg t f (Cn cs ρ) x.1 h1).bind B6 else .stuck
theorem Out.bind_assoc {α β γ:Type} (o:Out α) (k:α→HD→Out β) (l:β→HD→Out γ):(o.bind k).bind l=o.bind fun a h=>(k a h).bind l:=by cases o<;>rfl
section
variable {X:Cx} {E:XK} {elt tg iter:Expr} {ifs:List Expr} {scope:Scope} {pos:Pos} {Nc:List Str} {cs:List (Option Nat)} {it:MI} {gg:TG} {sg:MG} {t:MT} {f:ME}
inductive Qt (K:PySem.W.Frag) (E:XK) (Q:VK) (src:Bi) (items:List D) (sg:MG) (t:MT) (f:ME) (ρc:Aj) (m1:List Addr) (H1:Hp) (i n:Nat) (acc:List V) (H2:Hp):Prop where
 |mk (e:n=items.length - i) (l:i≤items.length) (a:acc.length≤i) (m2:List Addr) (h2:HD) (dacc:List D) (p:m1 <+:m2) (k:Kp H1 H2) (hr:HR K m2 h2 H2) (da:DVs K m2 H2 dacc acc) (q:Post K (rD K) m2 H2 E Q ((DI src items sg t f ρc (items.drop i) h2).bind fun ys h3=>B6 (dacc++ys) h3)):Qt K E Q src items sg t f ρc m1 H1 i n acc H2
theorem Qu (hg:JC X.K cs gg sg):∀σ H Q,tD X.K E (AX cs it sg t f) σ H Q→K4 cs (tM X.K (K3 X.K) E it) gg (HU X.K E0 t) (tD X.K E0 f) σ H Q:=by
 refine ?_
 rintro σ H Q ⟨m,ρ,h,hr,er,p⟩
 refine ⟨m,ρ,h,hr,er,Post.bind p fun x h1 J m1 H1 _ p1 k1 hr1 r1 q1=>?_⟩
 obtain ⟨items,src⟩:=x
 dsimp only at q1
 split at q1
 ·rename_i hz
  have er1:ER X.K m1 H1 (Cn cs ρ) (BG cs σ):=(er.keep p1 k1).comp cs
  refine ⟨Qt X.K E Q src items sg t f (Cn cs ρ) m1 H1,
   ⟨items.length,rfl,DE _,AF _,m1,h1,[],AQ _,.refl _,hr1,.nil,by simpa using q1⟩,?_⟩
  rintro i n acc H2 ⟨rfl,hi',ha,m2,h2,dacc,p2,k2,hr2,da,q2⟩
  by_cases hlt:i<items.length
  ·rw [MH hlt] at q2
   unfold DI at q2
   split at q2
   ·rename_i hs
    obtain ⟨hgo,hy⟩:=(r1 i m2 h2 H2 p2 k2 hr2 hs).1 hlt
    refine .inr ⟨hgo,by omega,fun y H3 hyl=>?_⟩
    obtain ⟨k3,hr3,d,ed,rd⟩:=hy y H3 hyl
    have ed':d=items[i]:=by rw [Bb hlt] at ed;exact (Option.some.inj ed).symm
    subst ed'
    split at q2
    ·exact q2.elim
    ·rename_i ρ3 es
     have er3:ER X.K m2 H3 (Cn cs ρ) (BG cs σ):=er1.keep p2 (k2.trans k3)
     refine hg m2 H3 _ y (Cn cs ρ) σ ρ3 _ rd er3 es fun σ4 sub4 er4=>⟨sub4,m2,ρ3,h2,hr3,er4,?_⟩
     rw [Out.bind_assoc] at q2
     refine Qs (Post.ahead (AQ _) k3 q2) fun b h5 v m5 H5 _ p5 k5 hr5 r5 q5=>?_
     cases r5
     cases b with
     |false=>
      simp only [B2,if_false] at q5 ⊢
      exact ⟨items.length - (i+1),by omega,rfl,hlt,by omega,m5,h5,dacc,p2.trans p5,(k2.trans k3).trans k5,hr5,DVs.keep p5 (k3.trans k5) da,q5⟩
     |true=>
      simp only [if_true] at q5 ⊢
      rw [Out.bind_assoc] at q5
      refine ⟨m5,ρ3,h5,hr5,er4.keep p5 k5,Qs q5 fun z h6 w m6 H6 _ p6 k6 hr6 r6 q6=>?_⟩
      refine ⟨items.length - (i+1),by omega,rfl,hlt,by simp;omega,m6,h6,dacc++[z],(p2.trans p5).trans p6,((k2.trans k3).trans k5).trans k6,hr6,(DVs.keep (p5.trans p6) ((k3.trans k5).trans k6) da).app (.cons r6 .nil),?_⟩
      rw [Out.bind_assoc] at q6
      simp only [Out.bind_ok] at q6
      simpa using q6
   ·exact q2.elim
  ·have he:i=items.length:=Nat.le_antisymm hi' (Ja hlt)
   subst he
   rw [List.drop_length] at q2
   unfold DI at q2
   split at q2
   ·rename_i hs
    simp only [Out.bind_ok,Gr] at q2
    obtain ⟨z1,z2⟩:=HY hr2 da q2
    exact .inl ⟨(r1 _ m2 h2 H2 p2 k2 hr2 hs).2 rfl,z1,z2⟩
   ·exact q2.elim
 ·exact q1.elim
theorem Cb (hcalm:X.calm=true) (S:Ig X scope Nc cs) (hi:F9 X E tg iter it) (hg:JC X.K cs gg sg)
 (hb:∀(C D:Addr) (cells:List (Str×Addr)) (fp:List Addr) (s₀:Shared) (H₀:Hp) (pins:List (Addr×Obj)),PG (CG X Nc scope C D cells fp s₀ H₀ pins) tg gg∧K5 (CG X Nc scope C D cells fp s₀ H₀ pins) E0 ifs t∧Ev (CG X Nc scope C D cells fp s₀ H₀ pins) E0 elt f)
 (hsf:∀x,foldedSetIterable iter X.env x=pure x:=by intro _;rfl):Ev X E (.ListComp elt [⟨tg,iter,ifs,0⟩] scope pos) (AX cs it sg t f):=by
 exact BW (WL (g:=gg) (tc:=HU X.K E0 t) (te:=tD X.K E0 f) hcalm S hi hb hsf) (Qu hg)
theorem Nq {i:Nat} {x:Str} {pos' pos2:Pos} (hcalm:X.calm=true) (hN:X.N.Nodup) (hix:X.N[i]?=some x) (hx:HK X.env.scope x) (S:Ig X scope Nc cs) (hi:F9 X E tg iter it) (hg:JC X.K cs gg sg)
 (hb:∀(C D:Addr) (cells:List (Str×Addr)) (fp:List Addr) (s₀:Shared) (H₀:Hp) (pins:List (Addr×Obj)),PG (CG X Nc scope C D cells fp s₀ H₀ pins) tg gg∧K5 (CG X Nc scope C D cells fp s₀ H₀ pins) E0 ifs t∧Ev (CG X Nc scope C D cells fp s₀ H₀ pins) E0 elt f)
 (hsf:∀x,foldedSetIterable iter X.env x=pure x:=by intro _;rfl) (hsw:swapsWith (.ListComp elt [⟨tg,iter,ifs,0⟩] scope pos) (some (.Name x pos')) pos2.line X.env=pure true:=by rfl)
 (hf:X.fn x=true∨X.env.scope.names.lookup x=some .local:=by first |exact .inl rfl |exact .inr rfl |assumption):Ex X E (.Assign [.Name x pos'] (.ListComp elt [⟨tg,iter,ifs,0⟩] scope pos) pos2) (Aw i (AX cs it sg t f)):=by
 rintro pins s σ H D I ⟨m,ρ,h,hr,er,p⟩
 have hq:K4 cs (tM X.K (K3 X.K) E it) gg (HU X.K E0 t) (tD X.K E0 f) σ H (fun v H1=>D.nx (σ.set i (some v)) H1):=Qu hg σ H _ ⟨m,ρ,h,hr,er,PostS.bind p fun y h1 v m1 H1 _ p1 k1 hr1 r1 q1=>(q1.here hr1) _ ((er.keep p1 k1).set r1)⟩
 rw [exec_Assign_Name_used _ _ _ _ hsw]
 refine wpAny_bind (wpAny_standAt (wpAny_bind ?_))
 show wpAny _ X.A (do let _ ←comprehension (.ListComp elt [⟨tg,iter,ifs,0⟩] scope pos) scope X.env _ (newList []) false (eval iter X.env) (some (assign (.Name x pos') X.env))) _ _ s
 refine wpAny_bind (wpAny_mono (Qr (QQ:=fun _ s'=>SP X pins D .next s') hcalm S hi hb hsf I hq fun s6 C Dd H7 m6 hn hC h0 hL hc hp inv q=>?_) (fun _ s' z=>wpAny_pure (wpAny_pure z)) fun _ _ z=>z)
 have I6:Inv X pins σ H7 s6:=inv s6.heap ⟨rfl,fun _ _=>rfl⟩
 refine wpAny_assign_Name (Kw I6 hN hix hx (v:=.ref Dd) rfl (fun s7 I7 z3_=>?_) hf)
 obtain ⟨a,sb7,ha⟩:=z3_
 have nCa:C≠a:=by
  rcases ha with z |z
  ·rw [z];exact hL
  ·exact Ne.symm (hc x a z)
 obtain ⟨o,es,ep,e1,e2⟩:=hn
 refine ⟨m6,⟨o,es,ep,(sb7.2 C nCa).trans e1,e2⟩,fun h' sb=>?_⟩
 exact ⟨_,H7,I7.turned (t':=s7.toks) (it:=C) (fun b o hb e=>(sb.2 b hb).trans e) hC hL (.inr h0) hc hp,q⟩
end
section
variable {X:Cx} {E:XK}
def En:D→HD→Option String
 |.non,_=>some "NoneType"
 |.bl _,_=>some "bool"
 |.int _,_=>some "int"
 |.str _,_=>some "str"
 |.tup _,_=>some "tuple"
 |.loc l,h=>match h[l]? with
  |some (.lst _)=>some "list"
  |_=>none
 |_,_=>none
theorem WM {m:List Addr} {H:Hp} {h:HD} {d:D} {v:V} {t:String} (hr:HR X.K m h H) (r:DV X.K m H d v) (e:En d h=some t):ES X.K H v (.type t):=by
 cases d with
 |non=>simp only [En,Option.some.injEq,DV] at e r;subst e r;exact .non
 |bl b=>simp only [En,Option.some.injEq,DV] at e r;subst e r;exact .bl _
 |int i=>simp only [En,Option.some.injEq,DV] at e r;subst e r;exact .int _
 |str x=>simp only [En,Option.some.injEq,DV] at e r;subst e r;exact .str _
 |tup ds=>simp only [En,Option.some.injEq,DV] at e r;subst e;obtain ⟨a,vs,rfl,ha,_⟩:=r;exact .tup ha
 |loc l=>
  simp only [DV] at r
  obtain ⟨a,rfl,ha⟩:=r
  simp only [En] at e
  split at e
  ·rename_i ds el
   cases e
   obtain ⟨vs,hv,_⟩:=hr.cells l _ a el ha
   exact .lst hv
  ·cases e
 |_=>simp [En] at e
def subL:List (String×String×Bool):=[("NoneType","int",false),("bool","int",true),("int","int",true),("str","int",false),("tuple","int",false),("list","int",false),("NoneType","bool",false),("bool","bool",true),("int","bool",false),("str","bool",false),("tuple","bool",false),("list","bool",false),("NoneType","tuple",false),("bool","tuple",false),("int","tuple",false),("str","tuple",false),("tuple","tuple",true),("list","tuple",false),("NoneType","str",false),("bool","str",false),("int","str",false),("str","str",true),("tuple","str",false),("list","str",false),("NoneType","list",false),("bool","list",false),("int","list",false),("str","list",false),("tuple","list",false),("list","list",true),("dict","int",false),("dict","bool",false),("dict","tuple",false),("dict","str",false),("dict","list",false)]
def K7 (t c:String):Option Bool:=(subL.find? fun p=>p.1==t&&p.2.1==c).map fun p=>p.2.2
theorem WN {K:PySem.W.Frag}:∀p∈subL,PySem.W.kitOne K (.type p.1) (.type p.2.1)=some p.2.2:=by
 unfold subL
 simp only [List.forall_mem_cons]
 exact ⟨rfl,rfl,rfl,rfl,rfl,rfl,rfl,rfl,rfl,rfl,rfl,rfl,rfl,rfl,rfl,rfl,rfl,rfl,rfl,rfl,rfl,rfl,rfl,rfl,rfl,rfl,rfl,rfl,rfl,rfl,rfl,rfl,rfl,rfl,rfl,fun _ h=>nomatch h⟩
theorem Qv {K:PySem.W.Frag} {t c:String} {b:Bool} (h:K7 t c=some b):PySem.W.kitOne K (.type t) (.type c)=some b:=by
 unfold K7 at h
 rw [qaV] at h
 obtain ⟨p,hp,rfl⟩:=h
 have e:=List.find?_some hp
 rw [CP,beq_iff_eq,beq_iff_eq] at e
 rw [←e.1,←e.2]
 exact WN p (List.mem_of_find?_eq_some hp)
def BH:D→D→HD→Out D:=fun x y h=>match y,En x h with
 |.ty T,some t=>match K7 t T with
  |some b=>.ok (.bl b) h
  |none=>.stuck
 |_,_=>.stuck
theorem EZ {x:Str} {T:String} {pos:Pos} (hg:Gl X x) (hm:X.mg x=none) (hv:bootBuiltins x=some (.type T)) (hn:x≠"__name__":=by decide) (hd:(x==("__debug__":Str))=false:=by decide):Ev X E (.Name x pos) (mC (.ty T)):=
 HW (Uq (v:=.ty T) hg hm hv rfl hn hd) fun _ _=>by simp [DV]
theorem Nr (ns:List Int):∀j,j≤ns.length→preSum (fun i=>ns.getD i 0) j=(ns.take j).sum
 |0,_=>by simp [preSum]
 |j+1,h=>by
  rw [preSum,Nr ns j (by omega),List.take_succ_eq_append_getElem (by omega),FU]
  simp [EL,Bb (show j<ns.length by omega)]
theorem Nt {h h2 h':Heap} {it:Addr} (k:∀b o,h.get? b=some o→h2.get? b=some o) (hit:h.objs.size≤it) (hk:∀b o,b∉[it]→h2.get? b=some o→h'.get? b=some o):∀b o,h.get? b=some o→h'.get? b=some o:=fun b o e=>
 hk b o (by rw [qaH];exact BM (A0 (AE e) hit)) (k b o e)
theorem Qw {ns:List Int} {its:List Value} (r:Vals (ns.map V.int) its) {i:Nat} {v:Value} (e:its.toArray[i]?=some v):∃t,v=.int (ns.getD i 0) t:=by
 have e':its[i]?=some v:=by simpa using e
 have hi:i<its.length:=(qa2.mp e').1
 have hl:ns.length=its.length:=by have:=r.length;simpa using this
 have hn:(ns.map V.int)[i]?=some (V.int (ns.getD i 0)):=by
  rw [Ck,Bb (by omega)]
  simp [EL,Bb (show i<ns.length by omega)]
 obtain ⟨u,h1,t,h2⟩:=r.get hn
 rw [e'] at h1
 cases h1
 exact ⟨t,h2⟩
theorem WO (hc:X.calm=true):CQ X (.builtin "sum") (fun xs H Q=>∃(p:Addr) (ns:List Int),xs=[.ref p]∧(SqL X.K H p (ns.map V.int)∨SqT X.K H p (ns.map V.int))∧Q (.int ns.sum) H):=by
 intro pins s σ H xs us Q I r h
 obtain ⟨p,ns,rfl,hs,q⟩:=h
 obtain ⟨u,rfl,rx⟩:=DY r
 cases rx
 have hh:X.A.in1.handled=none:=I.ok.hd hc
 rcases hs with hs |hs
 ·obtain ⟨its,rv,pl,hz⟩:=I.list hs
  have hl:=rv.length
  rw [CA] at hl
  have hlt:p<s.heap.objs.size:=by obtain ⟨_,e,_⟩:=pl.isList;exact AE e
  refine call_sum_walkG (wpAny_pyIter_list pl.isList ?_)
  refine ⟨s.heap.objs.size,[s.heap.objs.size,p],[s.heap.objs.size],its.toArray.size,_,_,fun i=>ns.getD i 0,rfl,Walks.list (A:=X.A.in1) hh _ p (BM hlt) its.toArray,⟨⟨_,A7 _ rfl,rfl,rfl⟩,pl.isList.push _⟩,fun b hb=>?_,fun i v e=>Qw rv e,fun h' tk t' hk=>?_⟩
  ·show b<(s.heap.push _).objs.size
   rw [B9]
   rcases qa4.mp hb with z |z
   ·rw [z];exact Kl _
   ·rw [qaH.mp z];exact Fq hlt
  ·have e:preSum (fun i=>ns.getD i 0) its.toArray.size=ns.sum:=by
    rw [A9,←hl,Nr ns _ (AF _),Km]
   rw [e]
   exact ⟨.int ns.sum,H,I.kept (Nt (fun b o e=>AB _ e) (AF _) hk),⟨t',rfl⟩,q⟩
 ·obtain ⟨its,rv,pl,hz⟩:=I.tuple hs
  have hl:=rv.length
  rw [CA] at hl
  have hT:s.heap.IsTuple p its.toArray:=pl
  have hlt:p<s.heap.objs.size:=pl.lt
  refine call_sum_walkG (wpAny_pyIter_tuple hT ?_)
  refine ⟨s.heap.objs.size,[s.heap.objs.size,p],[s.heap.objs.size],its.toArray.size,_,_,fun i=>ns.getD i 0,rfl,Walks.tuple (A:=X.A.in1) hh _ p (BM hlt) its.toArray,⟨⟨_,A7 _ rfl,rfl,rfl⟩,hT.push _⟩,fun b hb=>?_,fun i v e=>Qw rv e,fun h' tk t' hk=>?_⟩
  ·show b<(s.heap.push _).objs.size
   rw [B9]
   rcases qa4.mp hb with z |z
   ·rw [z];exact Kl _
   ·rw [qaH.mp z];exact Fq hlt
  ·have e:preSum (fun i=>ns.getD i 0) its.toArray.size=ns.sum:=by
    rw [A9,←hl,Nr ns _ (AF _),Km]
   rw [e]
   exact ⟨.int ns.sum,H,I.kept (Nt (fun b o e=>AB _ e) (AF _) hk),⟨t',rfl⟩,q⟩
def FC:D→Option Int
 |.int i=>some i
 |_=>none
def CU:D→HD→Out D:=fun x h=>match BA x h with
 |some ds=>match AV (ds.map FC) with
  |some ns=>.ok (.int ns.sum) h
  |none=>.stuck
 |none=>.stuck
theorem Nu {m:List Addr} {H:Hp}:∀{ds:List D} {vs:List V} {ns:List Int},DVs X.K m H ds vs→AV (ds.map FC)=some ns→vs=ns.map V.int
 |[],vs,ns,r,e=>by
  simp only [DVs] at r
  simp [AV] at e
  subst r e
  rfl
 |d::ds,vs,ns,r,e=>by
  simp only [DVs] at r
  obtain ⟨v,w,rfl,rv,rw'⟩:=r
  rw [Bu] at e
  cases d with
  |int i=>
   simp only [FC,AV,qaV] at e
   obtain ⟨ns',e1,rfl⟩:=e
   simp only [DV] at rv
   subst rv
   rw [Nu rw' e1]
   rfl
  |_=>simp [FC,AV] at e
theorem GI (hc:X.calm=true):Do X (.builtin "sum") (An CU):=by
 refine ⟨_,WO hc,fun m H h E ds vs Q hr r q=>F6 r q fun d v ev rv q=>?_⟩
 unfold CU at q
 split at q
 ·rename_i xs e
  split at q
  ·rename_i ns en
   obtain ⟨p,ws,rfl,hs,dv⟩:=Jt hr rv e
   have:=Nu dv en
   subst this
   exact ⟨p,ns,ev,hs,Bo hr q (by simp [DV])⟩
  ·exact q.elim
 ·exact q.elim
theorem WQ (hc:X.calm=true):CQ X (.builtin "all") (fun xs H Q=>∃(p:Addr) (bs:List Bool),xs=[.ref p]∧SqL X.K H p (bs.map V.bl)∧Q (.bl (bs.all id)) H):=by
 intro pins s σ H xs us Q I r h
 obtain ⟨p,bs,rfl,hs,q⟩:=h
 obtain ⟨u,rfl,rx⟩:=DY r
 cases rx
 have hh:X.A.in1.handled=none:=I.ok.hd hc
 obtain ⟨its,rv,pl,hz⟩:=I.list hs
 have hl:=rv.length
 rw [CA] at hl
 have hlt:p<s.heap.objs.size:=by obtain ⟨_,e,_⟩:=pl.isList;exact AE e
 have item:∀(i:Nat) (v:Value),its.toArray[i]?=some v→v=.bool (bs.getD i true):=fun i v e=>by
  have e':its[i]?=some v:=by simpa using e
  have hi:i<its.length:=(qa2.mp e').1
  have hn:(bs.map V.bl)[i]?=some (V.bl (bs.getD i true)):=by
   rw [Ck,Bb (by omega)]
   simp [EL,Bb (show i<bs.length by omega)]
  obtain ⟨u,h1,h2⟩:=rv.get hn
  rw [e'] at h1
  cases h1
  exact h2
 refine call_all_walk (wpAny_pyIter_list pl.isList ?_)
 refine ⟨s.heap.objs.size,[s.heap.objs.size,p],[s.heap.objs.size],its.toArray.size,_,_,fun i=>bs.getD i true,rfl,Walks.list (A:=X.A.in1) hh _ p (BM hlt) its.toArray,⟨⟨_,A7 _ rfl,rfl,rfl⟩,pl.isList.push _⟩,fun i v s' Q' E' e hQ=>?_,fun h' tk hk=>?_⟩
 ·rw [item i v e]
  exact wpAny_truthy_bool hQ
 ·have e:(List.range its.toArray.size).all (fun i=>bs.getD i true)=bs.all id:=by
   rw [A9,←hl]
   apply qbD.mpr
   simp only [qaL,qbM,id]
   constructor
   ·intro h b hb
    obtain ⟨i,hi,rfl⟩:=Kj hb
    have:=h i hi
    simpa [EL,Bb hi] using this
   ·intro h i hi
    have:=h bs[i] (Gq hi)
    simpa [EL,Bb hi] using this
  rw [e]
  exact ⟨.bl _,H,I.kept (Nt (fun b o e=>AB _ e) (AF _) hk),rfl,q⟩
def Ih:D→Option Bool
 |.bl b=>some b
 |_=>none
def Eo:D→HD→Out D:=fun x h=>match x with
 |.loc l=>match h[l]? with
  |some (.lst ds)=>match AV (ds.map Ih) with
   |some bs=>.ok (.bl (bs.all id)) h
   |none=>.stuck
  |_=>.stuck
 |_=>.stuck
theorem Qx {m:List Addr} {H:Hp}:∀{ds:List D} {vs:List V} {bs:List Bool},DVs X.K m H ds vs→AV (ds.map Ih)=some bs→vs=bs.map V.bl
 |[],vs,ns,r,e=>by
  simp only [DVs] at r
  simp [AV] at e
  subst r e
  rfl
 |d::ds,vs,ns,r,e=>by
  simp only [DVs] at r
  obtain ⟨v,w,rfl,rv,rw'⟩:=r
  rw [Bu] at e
  cases d with
  |bl i=>
   simp only [Ih,AV,qaV] at e
   obtain ⟨ns',e1,rfl⟩:=e
   simp only [DV] at rv
   subst rv
   rw [Qx rw' e1]
   rfl
  |_=>simp [Ih,AV] at e
theorem Nv (hc:X.calm=true):Do X (.builtin "all") (An Eo):=by
 refine ⟨_,WQ hc,fun m H h E ds vs Q hr r q=>F6 r q fun d v ev rv q=>?_⟩
 unfold Eo at q
 split at q
 ·rename_i l
  split at q
  ·rename_i xs el
   split at q
   ·rename_i bs eb
    simp only [DV] at rv
    obtain ⟨a,rfl,ha⟩:=rv
    obtain ⟨ws,hv,dv⟩:=hr.cells _ _ a el ha
    have:=Qx dv eb
    subst this
    exact ⟨a,bs,ev,SqL.of hv,Bo hr q (by simp [DV])⟩
   ·exact q.elim
  ·exact q.elim
 ·exact q.elim
def Ii:D→D→HD→Out D:=fun x y h=>match x with
 |.loc l=>match h[l]? with
  |some (.lst ds)=>if ds.length<sizeLine then .ok .non (h.set l (.lst (ds++[y]))) else .stuck
  |_=>.stuck
 |_=>.stuck
def Df:D→HD→Out D:=fun x h=>match x with
 |.loc l=>match h[l]? with
  |some (.lst _)=>.ok x h
  |_=>.stuck
 |_=>.stuck
def E1 (f g:ME):ME:=fun ρ h=>((f ρ h).bind Df).bind fun x h1=>(g ρ h1).bind fun y h2=>Ii x y h2
theorem JD {o e:Expr} {f g:ME} {apos cpos:Pos} (ho:Ev X E o f) (he:Ev X E e g)
 (hbase:attributeBase o "append" X.env (eval o X.env)=eval o X.env:=by rfl)
 (hfew:((backTo cpos (starEach [e] X.env)).all (fun x=>!x.1)&&(backToKw cpos (keywordEach [] X.env)).all (fun x=>x.1.isSome)
  &&decide ([e].length+([]:List Keyword).length+(if ([]:List Keyword).isEmpty then 0 else 1)<30))=true:=by rfl)
 (hline:(apos.endLine==cpos.line)=true:=by rfl) (hs:starEach [e] X.env=(false,eval e X.env)::starEach [] X.env:=by rfl) (hplain:(backTo cpos (starEach [] X.env)).any (·.1)=false:=by rfl):
 Ev X E (.Call (.Attribute o "append" apos) [e] [] cpos) (E1 f g):=
 BW (V6 PySem.F.plainAttrs_list PySem.F.slot_list_append PySem.F.type_list_append Wa ho (Ac he Af hs) hbase hfew hline hs hplain) fun σ H Q z1_=>by
  obtain ⟨m,ρ,h,hr,er,p⟩:=z1_
  refine ⟨m,ρ,h,hr,er,?_⟩
  unfold E1 at p
  rw [Out.bind_assoc] at p
  refine Post.bind p fun x h1 v m1 H1 eo p1 k1 hr1 r1 q1=>?_
  clear eo
  unfold Df at q1
  split at q1
  ·rename_i l
   split at q1
   ·rename_i ds el
    simp only [Out.bind_ok] at q1
    have r1':=r1
    simp only [rD,DV] at r1'
    obtain ⟨a,rfl,ha⟩:=r1'
    obtain ⟨ws,hv,dv⟩:=hr1.cells l _ a el ha
    refine ⟨.inl ⟨rfl,ws,SqL.of hv⟩,m1,ρ,h1,hr1,er.keep p1 k1,?_⟩
    have q2:Post X.K (rD X.K) m1 H1 E Q ((Aa g Ad ρ h1).bind fun ys h2=>match ys with
     |[y]=>Ii (.loc l) y h2
     |_=>.stuck):=by
     unfold Aa Ad
     rw [Out.bind_assoc]
     exact q1
    refine Post.bind q2 fun ys h2 vs m2 H2 eo p2 k2 hr2 r2 q3=>?_
    clear eo
    split at q3
    ·rename_i y
     simp only [EV,DVs] at r2
     obtain ⟨yv,w,rfl,ry,rfl⟩:=r2
     unfold Ii at q3
     simp only at q3
     split at q3
     ·rename_i ds2 el2
      split at q3
      ·rename_i hz
       have ha2:=Jj p2 ha
       obtain ⟨ws2,hv2,dv2⟩:=hr2.cells l _ a el2 ha2
       refine ⟨a,ws2,yv,rfl,rfl,hv2,by rw [←dv2.len];exact hz,?_⟩
       refine q3 .non m2 _ (AQ _) (.set hv2 rfl) (hr2.setCell ha2 hv2 rfl ⟨_,B3,?_⟩) (by simp [rD,DV])
       exact (dv2.app (.cons ry .nil)).keep (AQ _) (.set hv2 rfl)
      ·exact q3.elim
     ·exact q3.elim
    ·exact q3.elim
   ·exact q1.elim
  ·exact q1.elim
def Ij:D→D→D→HD→Out (Fl×Aj)→Out (Fl×Aj):=fun o i v h k=>match o,i with
 |.loc l,.int n=>match h[l]? with
  |some (.lst ds)=>match DZ ds.length n with
   |some j=>match k with
    |.ok a _=>.ok a (h.set l (.lst (ds.set j v)))
    |_=>.stuck
   |none=>.stuck
  |_=>.stuck
 |_,_=>.stuck
def K8 (fo fi fv:ME):MS:=fun ρ h=>(fv ρ h).bind fun v h1=>(fo ρ h1).bind fun o h2=>(fi ρ h2).bind fun i h3=>Ij o i v h3 (.ok (.nx,ρ) h3)
theorem WR {o i e:Expr} {fo fi fv:ME} {pos pos':Pos} (ho:Ev X E o fo) (hi:Ev X E i fi) (he:Ev X E e fv)
 (ha:∀v,assign (.Subscript o i pos') X.env v=(do
  let ov ←holding [v] (eval o X.env)
  let iv ←holding [v,ov] (eval i X.env)
  standAt pos'
  holding [v,ov,iv] (setItem ov iv v)
  release [v,ov,iv] []):=by intro _;rfl)
 (hs:swapsWithSole [.Subscript o i pos'] e pos.line X.env=pure false:=by rfl) (hw:swappedStores [.Subscript o i pos'] e X.env=pure none:=by rfl)
 (h1:(assignEach [.Subscript o i pos'] X.env).map (·.2)=[assign (.Subscript o i pos') X.env]:=by rfl):Ex X E (.Assign [.Subscript o i pos'] e pos) (K8 fo fi fv):=
 FZ (Pm he (US ho hi VZ ha) hs hw h1) fun Dn σ H ⟨m,ρ,h,hr,er,p⟩=>⟨m,ρ,h,hr,er,PostS.bind p fun v h1 vv m1 H1 eo1 p1 k1 hr1 r1 q1=>by
  refine ⟨m1,ρ,h1,hr1,er.keep p1 k1,PostS.bind q1 fun ov h2 vo m2 H2 eo2 p2 k2 hr2 r2 q2=>?_⟩
  refine ⟨m2,ρ,h2,hr2,(er.keep p1 k1).keep p2 k2,PostS.bind q2 fun iv h3 vi m3 H3 eo3 p3 k3 hr3 r3 q3=>?_⟩
  clear eo1 eo2 eo3
  unfold Ij at q3
  split at q3
  ·rename_i l n
   split at q3
   ·rename_i ds el
    split at q3
    ·rename_i j ej
     have ro:=DV.keep p3 k3 r2
     simp only [DV] at ro
     obtain ⟨a,rfl,ha⟩:=ro
     have ri:=r3
     simp only [rD,DV] at ri
     subst ri
     obtain ⟨ws,hv,dv⟩:=hr3.cells l _ a el ha
     refine ⟨a,ws,n,j,rfl,rfl,hv,by rw [←dv.len];exact ej,?_⟩
     have rvv:=DV.keep p3 k3 (DV.keep p2 k2 r1)
     have hr4:HR X.K m3 (h3.set l (.lst (ds.set j v))) (Ao H3 a (.lst (ws.set j vv))):=hr3.setCell ha hv rfl ⟨_,B3,(dv.set j rvv).keep (AQ _) (.set hv rfl)⟩
     exact q3 m3 _ (AQ _) (.set hv rfl) hr4 σ ((((er.keep p1 k1).keep p2 k2).keep p3 k3).keep (AQ _) (.set hv rfl))
    ·exact q3.elim
   ·exact q3.elim
  ·exact q3.elim⟩
end
def Am (n:Nat) (g:MS):List D→HD→Out D:=fun ds h=>(g (ds.map some++List.replicate (n - ds.length) none) h).bind fun x h1=>match x with
 |(.nx,_)=>.ok .non h1
 |(.rt d,_)=>.ok d h1
 |_=>.stuck
open AutoSeq1 (wpAny_loadPart')
section
variable {prog:Program} {w:World} {A:Around} {E:Value→Shared→Prop} {s:Shared}
theorem WS {it l:Addr} {i:Nat} {items:Array Value} {x:Value} {Q:Value→Shared→Prop} (hit:s.heap.IsTupleIter it l i)
 (hl:s.heap.IsTuple l items) (hx:items[i]?=some x)
 (hQ:∀h',h'.IsTupleIter it l (i+1)→Heap.SameBut it s.heap h'→Q x {s with heap:=h'}):
 wpAny (model prog w) A (Builtin.SmallTypes.nextOf (.ref it)) Q E s:=by
 obtain ⟨o,ho,hc,hd⟩:=id hit
 obtain ⟨ol,hol,_,nl,hdl⟩:=hl
 unfold Builtin.SmallTypes.nextOf
 refine wpAny_bind (wpAny_callSpecial?_slot (name:=Str.ofString "__next__") hit.typeIs F.slot_tuple_iterator_next
  (wpAny_call_entry F.slot_tuple_iterator_next hit.typeIs F.entry_tuple_iterator_next ?_ (F.args_tuple_iterator_next_1 _)))
 show wpAny _ _ (field (.ref it) 0 >>=_) _ _ s
 refine wpAny_bind (wpAny_field ho hd (x:=.ref l) rfl ?_)
 show wpAny _ _ (if (Value.ref l==Value.none)=true then _ else _) _ _ s
 rw [if_neg (show ¬((Value.ref l==Value.none)=true) from BL)]
 show wpAny _ _ (field (.ref it) 1 >>=_) _ _ s
 refine wpAny_bind (wpAny_field ho hd (x:=.int i 0) rfl ?_)
 show wpAny _ _ (seqItems? (.ref l) >>=_) _ _ s
 refine wpAny_bind (wpAny_seqItems hol hdl ?_)
 simp only [HI,hx]
 refine wpAny_bind (wpAny_setField ho hd (by simp) (wpAny_pure ⟨x,rfl,wpAny_pure (hQ _ ?_ (Heap.SameBut.update ..))⟩))
 exact ⟨_,Fp _ ho (Obj.isFreed_of_fields (Obj.data_mapFields hd _)),(Obj.cls_mapFields ..).trans hc,by
  rw [Obj.data_mapFields hd];simp [rawInt]⟩
theorem WT {it l:Addr} {i:Nat} {items:Array Value} {Q:Value→Shared→Prop} (hh:A.handled=none)
 (hit:s.heap.IsTupleIter it l i) (hl:s.heap.IsTuple l items) (hx:items[i]?=none)
 (hE:∀h' e,Heap.ExtBut it s.heap h'→(∃o,h'.get? e=some o∧o.cls=.type "StopIteration")→E (.ref e) {s with heap:=h'}):
 wpAny (model prog w) A (Builtin.SmallTypes.nextOf (.ref it)) Q E s:=by
 obtain ⟨o,ho,hc,hd⟩:=id hit
 obtain ⟨ol,hol,_,nl,hdl⟩:=hl
 unfold Builtin.SmallTypes.nextOf
 refine wpAny_bind (wpAny_callSpecial?_slot (name:=Str.ofString "__next__") hit.typeIs F.slot_tuple_iterator_next
  (wpAny_call_entry F.slot_tuple_iterator_next hit.typeIs F.entry_tuple_iterator_next ?_ (F.args_tuple_iterator_next_1 _)))
 show wpAny _ _ (field (.ref it) 0 >>=_) _ _ s
 refine wpAny_bind (wpAny_field ho hd (x:=.ref l) rfl ?_)
 show wpAny _ _ (if (Value.ref l==Value.none)=true then _ else _) _ _ s
 rw [if_neg (show ¬((Value.ref l==Value.none)=true) from BL)]
 show wpAny _ _ (field (.ref it) 1 >>=_) _ _ s
 refine wpAny_bind (wpAny_field ho hd (x:=.int i 0) rfl ?_)
 show wpAny _ _ (seqItems? (.ref l) >>=_) _ _ s
 refine wpAny_bind (wpAny_seqItems hol hdl ?_)
 simp only [HI,hx]
 refine wpAny_bind (wpAny_rule (wpAny_bind (wpAny_setField ho hd (by simp) ?_)))
 show wpAny _ _ (newExc (.type "StopIteration") [] >>=_) _ _ _
 refine wpAny_bind ?_
 simp only [newExc,newTuple]
 refine wpAny_bind (wpAny_newObj_type ?_ (by size_fits))
 refine wpAny_bind (m:=firstArgMember _ _) (wpAny_of_eq (a:=Value.none) (by first |rfl |(simp only [firstArgMember];rfl)) ?_)
 refine wpAny_newObj_type ?_ (by size_fits)
 simp only [raiseNew]
 refine wpAny_bind (wpAny_handled ?_)
 first |rw [show A.in1.handled=none from hh] |rw [hh]
 refine wpAny_bind (wpAny_pure (wpAny_throw ?_))
 exact hE _ _ (((Heap.SameBut.update ..).extBut.push _).push _) ⟨_,A7 _ rfl,rfl⟩
end
theorem Nw {prog:Program} {w:World} {A:Around} (hh:A.handled=none) (it l:Addr) (hne:l≠it) (items:Array Value):
 Draws prog w A it [it,l] items.size (fun i v=>items[i]?=some v) (fun i h=>h.IsTupleIter it l i∧h.IsTuple l items) where
 live:=fun _ _ st=>let ⟨o,ho,_⟩:=st.1;⟨o,ho⟩
 frame:=fun _ _ _ st hk=>⟨st.1.at fun o e=>hk it (by simp) o e,st.2.at fun o e=>hk l (by simp) o e⟩
 item:=fun i s Q E hi st hQ=>by
  refine WS st.1 st.2 (x:=items[i]) (by simp [hi]) fun h' hit' hs'=>?_
  exact hQ _ h' s.toks (by simp [hi]) ⟨hit',st.2.extBut hs'.extBut hne⟩ hs'
 done:=fun s Q E st hE=>WT hh st.1 st.2 (by simp) hE
theorem WU (l:Addr) (items:Array Value) (n:Nat) (dct:Option Addr) (sl:Array (Option Value)):
 Meets (Builtin.«enumerate.__new__» ⟨[.type "enumerate",.ref l],[]⟩) (fun _ R s=>s.heap.get? l=some {cls:=.type "tuple",dict:=dct,data:=.seq items n,slots:=sl}∧
  R (.ok (.ret (.ref (s.heap.push {cls:=.type "tuple_iterator",data:=.fields #[.ref l,.int 0 0]}).objs.size)))
    {s with heap:=(s.heap.push {cls:=.type "tuple_iterator",data:=.fields #[.ref l,.int 0 0]}).push {cls:=.type "enumerate",data:=.fields #[.none,.bool false,.ref s.heap.objs.size,rawInt 0,.none,.none]}}):=
 .of_wp fun prog w A R s h=>by
  obtain ⟨hp,g,d,tk,os⟩:=s;obtain ⟨hl,h⟩:=h
  have hsub:=sub_enumerate
  have hL:Heap.IsTuple (Shared.heap ⟨hp,g,d,tk,os⟩) l items:=⟨_,hl,rfl,n,rfl⟩
  wp_walk using wpAny_loadPart' hl
  refine wpAny_stack_any fun st=>wpAny_pure ?_
  split
  ·rename_i c _ _ _ _ _
   cases (c==Value.type "enumerate")
   ·wp_walk using wpAny_loadPart' hl,wpAny_pyIter_tuple hL
    exact ⟨_,rfl,h⟩
   ·wp_walk using wpAny_loadPart' hl,wpAny_pyIter_tuple hL
    exact ⟨_,rfl,h⟩
  ·wp_walk using wpAny_loadPart' hl,wpAny_pyIter_tuple hL
   exact ⟨_,rfl,h⟩
section
variable {prog:Program} {w:World} {A:Around} {E:Value→Shared→Prop} {s:Shared}
theorem WV {l:Addr} {items:Array Value} {Q:Value→Shared→Prop} (hL:s.heap.IsTuple l items)
 (h:∀h',IsEnum h' (s.heap.objs.size+1) s.heap.objs.size 0 .none→h'.IsTupleIter s.heap.objs.size l 0→h'.objs.size=s.heap.objs.size+2→
  (∀b o,s.heap.get? b=some o→h'.get? b=some o)→Q (.ref (s.heap.objs.size+1)) {s with heap:=h'}):
 wpAny (model prog w) A (call (.type "enumerate") [.ref l]) Q E s:=by
 obtain ⟨⟨c,dct,dt,sl⟩,hl,hc,n,hd⟩:=hL
 replace hc:c=.type "tuple":=hc
 replace hd:dt=.seq items n:=hd
 subst hc hd
 refine callType_new F.called_enumerate (by decide) (F.typeCall_enumerate_1 _) (F.newCall_enumerate_1 _) (fun obj=>F.args_object_init_2 obj _) F.entry_enumerate_new
  (WU l items n dct sl) ⟨hl,?_⟩
 have hz:(s.heap.push {cls:=.type "tuple_iterator",data:=.fields #[.ref l,.int 0 0]}).objs.size=s.heap.objs.size+1:=B9 ..
 show _∧_
 rw [hz]
 have he:IsEnum ((s.heap.push {cls:=.type "tuple_iterator",data:=.fields #[.ref l,.int 0 0]}).push
  {cls:=.type "enumerate",data:=.fields #[.none,.bool false,.ref s.heap.objs.size,rawInt 0,.none,.none]}) (s.heap.objs.size+1) s.heap.objs.size 0 .none:=by
  have:=A7 (s.heap.push {cls:=.type "tuple_iterator",data:=.fields #[.ref l,.int 0 0]})
   (o:={cls:=.type "enumerate",data:=.fields #[.none,.bool false,.ref s.heap.objs.size,rawInt 0,.none,.none]}) rfl
  rw [hz] at this;exact this
 refine ⟨⟨_,he,rfl⟩,h _ he ⟨_,AB _ (A7 _ rfl),rfl,rfl⟩ (by rw [B9,hz]) fun b o x=>AB _ (AB _ x)⟩
end
def Qy (K:PySem.W.Frag) (t:Addr) (xs:List V):It:=⟨fun i H=>i<xs.length∧SqT K H t xs,fun i H x H'=>∃p v,H p=none∧x=.ref p∧xs[i]?=some v∧H'=Ao H p (.tup [.int i,v]),fun i H=>i=xs.length∧SqT K H t xs⟩
theorem WW {P:Program} {w:World} {K:PySem.W.Frag} {elts:List Expr} {kt:Nat} {tpos:Pos} (e it t:Addr) (hei:e≠it) (hte:t≠e) (hti:t≠it) (xs:List V):
 GA P w K (.Tuple elts kt tpos) (Qy K t xs) [e,it] e (fun i h=>(∃old,IsEnum h e it i old)∧h.IsTupleIter it t i) where
 mem:=by simp
 obj:=fun i h st b hb=>by
  obtain ⟨⟨old,h1⟩,o,h2,hc,hd⟩:=st
  rcases qa4.mp hb with z |z
  ·subst z;exact ⟨_,h1,fun v z=>by cases z⟩
  ·rw [qaH] at z
   subst z
   exact ⟨o,h2,fun v z=>by rw [hd] at z;cases z⟩
 keep:=fun i h h' st k=>by
  obtain ⟨⟨old,h1⟩,h2⟩:=st
  exact ⟨⟨old,k e (by simp) _ h1⟩,h2.at fun o z=>k it (by simp) o z⟩
 item:=by
  intro X hP hw hK hc i pins s σ H E I hf st hg
  subst hP hw hK
  obtain ⟨⟨old,he⟩,hit⟩:=st
  obtain ⟨hi,hq⟩:=hg
  obtain ⟨its,rv,p,hz⟩:=I.tuple hq
  have hT:s.heap.IsTuple t its.toArray:=p
  have hl:=rv.length
  obtain ⟨e0,e1,e2,e3,e4,e5⟩:=hf e (by simp)
  obtain ⟨i0,i1,i2,i3,i4,i5⟩:=hf it (by simp)
  have hx:xs[i]?=some xs[i]:=Bb hi
  refine wpAny_pyNext_enum_itemD (Nw (A:=X.A.in1) (I.ok.hd hc) it t hti its.toArray) he ⟨hit,hT⟩ (by rw [A9];omega) hei (by simp [hei,Ne.symm hte]) fun x h1 tk hPx ho hs1 hTup hsz hk=>?_
  obtain ⟨u,hu,ru⟩:=rv.get hx
  have hux:u=x:=by
   have:its[i]?=some x:=by simpa using hPx
   rw [hu] at this
   exact Option.some.inj this
  subst hux
  refine ⟨.ref s.heap.objs.size,rfl,wpAny_letOwnedTupleGo_enum ho fun h2 he2 sb=>?_⟩
  have hfr:H s.heap.objs.size=none:=I.hok.fresh (AF _)
  have kk:∀b o,b∉[e,it]→s.heap.get? b=some o→h2.get? b=some o:=fun b o hb z=>by
   have n1:b≠e:=fun q=>hb (by simp [q])
   have n2:b≠it:=fun q=>hb (by simp [q])
   exact (sb.2 b n1).trans (hk b o n1 n2 z)
  have na:s.heap.objs.size≠e:=Gb (AE he)
  have hnew:h2.get? s.heap.objs.size=some {cls:=.type "tuple",data:=.seq #[.int i tk,u]}:=(sb.2 _ na).trans hTup
  have ntr:∀b w,H b=some w→b∉[e,it]:=fun b w z hb=>by
   rcases qa4.mp hb with q |q
   ·rw [q,e0] at z;cases z
   ·rw [qaH.mp q,i0] at z;cases z
  have nal:∀b o,s.heap.get? b=some o→b≠s.heap.objs.size:=fun b o z=>BM (AE z)
  have it2:h2.IsTupleIter it t (i+1):=by
   obtain ⟨o,q,r⟩:=hs1.1
   exact ⟨o,(sb.2 it (Ne.symm hei)).trans q,r⟩
  refine ⟨.ref s.heap.objs.size,Ao H s.heap.objs.size (.tup [.int i,xs[i]]),?_,rfl,⟨s.heap.objs.size,xs[i],hfr,rfl,hx,rfl⟩,⟨⟨u,he2⟩,it2⟩,fun b hb=>?_⟩
  ·show Inv X pins σ _ {s with heap:=h2,gens:=s.gens,drawn:=s.drawn,toks:=tk+1}
   refine I.step (g':=s.gens) (d':=s.drawn) (t':=tk+1) (h':=h2) (ch:=[e,it]) (fun b hb=>?_) (fun b o _ _ hc z _=>kk b o hc z) (fun b o _ _ hc z _=>⟨o.slots,kk b o hc z⟩) (fun b o _ z n=>by rw [Au (nal b o z)];exact n)
    (fun b o hc z=>⟨o,kk b o hc z⟩) (fun b ys z=>by rw [Au (BE z hfr)];exact z) (fun b o u z=>by rw [Au (BE z hfr)];exact z) (fun b ps z=>⟨#[],by rw [Au (BE z hfr),z];simp⟩) (fun m hm=>?_) (fun b w z=>?_) I.bare
   ·rcases qa4.mp hb with q |q
    ·subst q;exact ⟨e3,e1,e4,e5⟩
    ·rw [qaH] at q;subst q;exact ⟨i3,i1,i4,i5⟩
   ·obtain ⟨o,es,ep,q,r⟩:=hm
    exact ⟨o,es,ep,kk _ o (by simp [Ne.symm e1,Ne.symm i1]) q,r⟩
   ·by_cases hb:b=s.heap.objs.size
    ·subst hb
     rw [B3] at z
     cases z
     exact ⟨by simp only [HJ,Gs];rw [sizeLine_eq];decide,[.int i tk,u],.cons ⟨tk,rfl⟩ (.cons ru .nil),⟨_,hnew,rfl,0,rfl⟩,fun o e=>by rw [hnew] at e;cases e;rfl⟩
    ·rw [Au hb] at z
     refine (I.hok b w z).stay (fun c v hc q=>kk c v ?_ q) (fun c q=>by rw [Au (BE q hfr)];exact q) fun c ys q=>by rw [Au (BE q hfr)];exact q
     rcases hc with rfl |hc
     ·exact ntr c _ z
     ·exact ntr c _ hc
  ·have nb:b≠s.heap.objs.size:=by
    rcases qa4.mp hb with q |q
    ·rw [q];exact na.symm
    ·rw [qaH.mp q]
     obtain ⟨o,z,_⟩:=hit
     exact nal _ _ z
   rw [Au nb]
   exact (hf b hb).1
 done:=by
  intro X hP hw hK hc i pins s σ H E I hf st hg
  subst hP hw hK
  obtain ⟨⟨old,he⟩,hit⟩:=st
  obtain ⟨hi,hq⟩:=hg
  obtain ⟨its,rv,p,hz⟩:=I.tuple hq
  have hT:s.heap.IsTuple t its.toArray:=p
  have hl:=rv.length
  obtain ⟨i0,i1,i2,i3,i4,i5⟩:=hf it (by simp)
  have hin:i=its.toArray.size:=by rw [A9];omega
  refine wpAny_pyNext_enum_endD (Nw (A:=X.A.in1) (I.ok.hd hc) it t hti its.toArray) he (hin ▸ ⟨hit,hT⟩) fun h' eb=>⟨rfl,I.turned (t':=s.toks) (fun b o hb z=>eb b o hb z) i0 i1 i3 i4 i5⟩
 self:=fun A i s Q E st h=>by
  obtain ⟨⟨old,he⟩,_⟩:=st
  exact wpAny_pyIter_enum he h
section
variable {X:Cx} {E:XK}
def Ep (ds:List D):List D:=ds.mapIdx fun i d=>.tup [.int (i:Nat),d]
def Qz:List D→HD→Out (List D×Bi):=fun ds h=>match ds with
 |[.tup xs]=>.ok (Ep xs,[]) h
 |_=>.stuck
def QC (fa:MA):MI:=fun ρ h=>(fa ρ h).bind Qz
end
end LS
namespace LS
open PySem PySem.Spec PyProof.Rows L2
section
variable {prog:Program} {w:World} {A:Around} {E:Value→Shared→Prop} {s:Shared}
end
section
variable {X:Cx} {E:XK} {e:Expr} {f:ME}
def Nx:D→HD→Out D:=fun x h=>match x with
 |.tup [a,b]=>.ok (.tup [b,a]) h
 |_=>.stuck
def QE (f:ME):ME:=fun ρ h=>(f ρ h).bind Nx
end
structure CSc (X:Cx) (scope:Scope) (Nc:List Str) (cs:List (Option Nat)):Prop where
 kind:scope.kind=.function
 loc:(scope.names.all fun y=>y.2 != .local||scope.names.lookup y.1==some .local)=true
 free:(scope.names.all fun y=>y.2 != .free||(X.env.kindOf y.1==some .cell||X.env.kindOf y.1==some .free))=true
 nd:(scope.names.map (·.1)).Nodup
 len:cs.length=Nc.length
 out:((Nc.zip cs).all fun p=>match p.2 with
  |none=>true
  |some j=>X.N[j]?==some p.1&&scope.names.lookup p.1==some .free)=true
theorem CSc.ok {X:Cx} {scope:Scope} {Nc:List Str} {cs:List (Option Nat)} (S:CSc X scope Nc cs):Ig X scope Nc cs:=by
 refine ⟨S.kind,fun y hy e=>?_,fun y hy e=>?_,S.nd,S.len,fun i x j h1 h2=>?_⟩
 ·have:=qaL.mp S.loc y hy
  rw [e] at this
  simpa using this
 ·have:=qaL.mp S.free y hy
  rw [e] at this
  simpa using this
 ·have hz:(Nc.zip cs)[i]?=some (x,some j):=by
   rw [List.getElem?_zip_eq_some]
   exact ⟨h1,h2⟩
  have:=qaL.mp S.out (x,some j) (Gn hz)
  simpa using this
structure Dn (K:PySem.W.Frag) (mg:Str→Option Value) (x:Str) (ps:List Str) (st:Stmt) (f:Addr) (fd:FuncData):Prop where
 fn:Fun K x x st f fd
 bd:Binds K fd ps []
 mg:mg x=some (.ref f)
section
variable {X:Cx} {E:XK}
theorem K9 {a:Expr} {f:ME} {pos:Pos} (ha:Ev X E a f):Ev X E (.UnaryOp .USub a pos) (fun ρ h=>(f ρ h).bind fun x h1=>match x with
 |.int i=>.ok (.int (-i)) h1
 |_=>.stuck):=
 BW (U9 Vg ha) fun σ H Q z1_=>by obtain ⟨m,ρ,h,hr,er,p⟩:=z1_;exact (⟨m,ρ,h,hr,er,Post.bind p fun x h1 v m1 H1 eo p1 k1 hr1 r1 q1=>by
  clear eo
  split at q1
  ·simp only [rD,DV] at r1
   subst r1
   exact ⟨_,rfl,Bo hr1 q1 (by simp [DV])⟩
  ·exact q1.elim⟩)
def Ik (f:ME):ME:=fun ρ h=>(f ρ h).bind fun x h1=>match x with
    |.int i=>.ok (.int (-i)) h1
    |_=>.stuck
theorem D7 {i j:Nat} {x y:Str} {px py tp:Pos} {kt:Nat} (hc:X.calm=true) (h1:PG X (.Name x px) (De i)) (h2:PG X (.Name y py) (De j)):PG X (.Tuple [.Name x px,.Name y py] kt tp) (Gz X.K 2 (DX (De i) (DX (De j) Gy))):=
 MV hc (HL h1 (HL h2 MU))
end
def CMl (i j:Int):Prop:=CMul i j∨(Builtin.Int.intBits i≤16777216∧Builtin.Int.intBits j≤16777216)
instance (i j:Int):Decidable (CMl i j):=by unfold CMl;infer_instance
theorem CMl.ok {i j:Int} (h:CMl i j):IntMulOk i j:=by
 rcases h with h |⟨h1,h2⟩
 ·exact h.ok
 ·unfold IntMulOk
  intro z
  simp only [CP,decide_eq_true_eq] at z
  have:=z.2
  unfold Builtin.Int.intTooBig at this
  simp only [decide_eq_true_eq] at this
  have hb:(bitsLine:Int)=134217728:=by first |rfl |decide
  omega
variable {X:Cx}
theorem op_mul':OpR X (binaryOp .Mult) (rI CMl fun i j=>.int (i*j)):=Jf fun _ _ _ _ _ _ _ hc q=>mul_int q hc.ok
def DJ:D→D→HD→Out D
 |.int i,.int j,h=>if CMl i j then .ok (.int (i*j)) h else .stuck
 |.loc l,.int k,h=>match h[l]? with
  |some (.lst xs)=>if -(2^63)≤k∧k<2^63 then B6 (List.replicate k.toNat xs).flatten h else .stuck
  |_=>.stuck
 |_,_,_=>.stuck
theorem WX:Bz X (binaryOp .Mult) DJ:=by
 refine ⟨_,op_mul'.or Wd,fun m H h E x y v u Q hr rx ry q=>?_⟩
 unfold DJ at q
 split at q
 ·simp only [DV] at rx ry
  subst rx ry
  split at q
  ·rename_i hc
   exact .inl ⟨_,_,rfl,rfl,hc,Bo hr q (by simp [DV])⟩
  ·exact q.elim
 ·simp only [DV] at rx ry
  obtain ⟨a,rfl,ha⟩:=rx
  subst ry
  split at q
  ·rename_i k _ xs e
   split at q
   ·rename_i hk
    obtain ⟨vs,h1,d1⟩:=hr.cells _ _ a e ha
    obtain ⟨z,q'⟩:=HY hr (d1.rep k.toNat) q
    refine .inr ⟨a,k,vs,rfl,rfl,h1,hk.1,hk.2,?_,q'⟩
    rw [KL] at z
    rw [Nat.mul_comm];exact z
   ·exact q.elim
  ·exact q.elim
 ·exact q.elim
end LS
namespace Att
open PySem PySem.W PySem.Calls PyProof.Rows
theorem WY {ns:List Int} (h:WData.layable (.list (ns.map WData.int))=true):∀n∈ns,Builtin.Int.intBits n≤2^20:=by
 have hw:WData.weight (.list (ns.map WData.int))≤2^20:=(layableW_iff.mp h).2.2
 have key:∀(ns:List Int) (b:Nat),WData.weightAll (ns.map WData.int)≤b→∀n∈ns,Builtin.Int.intBits n≤b:=by
  intro ns
  induction ns with
  |nil=>intro b _ n hn;cases hn
  |cons m r ih=>
   intro b hb n hn
   have e:WData.weightAll ((m::r).map WData.int)=Builtin.Int.intBits m+1+WData.weightAll (r.map WData.int):=by
    simp only [Bu,WData.weightAll,WData.weight]
    rfl
   rw [e] at hb
   rcases qa4.mp hn with z |z
   ·subst z;omega
   ·exact ih b (by omega) n z
 exact key ns _ (by simpa only [WData.weight] using hw)
theorem attach_bits {l:OpenLaw} {n:Nat} {q:Program} {loose:List Str} {XP:(Str→Option Value)→Heap→Prop} {YP:World→Heap→Prop} {d:DefRec}
 (hn:l.most=some n) (hdf:d.params.defaults=[])
 (call:∀(w:World) (s₀ s₁:Shared) (mg mb:Str→Option Value) (fa:Addr) (o:Obj) (pm cd doc:Value) (a:Addr) (vs:List Value) (ns:List Int),(∀n∈ns,Builtin.Int.intBits n≤2^20)→
  Ground q loose [] XP w s₀ mg mb s₁.heap→YP w s₁.heap→
  s₁.heap.get? fa=some o→o.data=.func (docDef d.name d.params d.body d.scope pm cd doc)→s₁.heap.CodeRec cd d.name→mg d.name=some (.ref fa)→
  s₁.heap.get? a=some {cls:=.type "list",data:=.seq vs.toArray}→IntsAre vs ns→ns.length≤n→s₁.gens=#[]→
  codeAny (model l.prog w) callerA (.call (.ref fa) ⟨[.ref a],[]⟩) (fun r s'=>r=.ok (.ret (.bool true))∧OldK s₁.heap s'.heap∧s'.os=s₁.os∧AllBare s'.gens) s₁):
 WalkO q loose XP YP l.row.toRowW d [] (fun f vs=>PySem.call f vs):=by
 intro w s₀ s₁ mg mb G Y fa o pm cd doc dV kV ho hd hcd hD hmg hg args vals as hpre hlay hrd hwl hlo
 obtain rfl:dV=.none:=Dflts.none hD hdf
 obtain rfl:kV=.none:=Dflts.noKw hD
 obtain ⟨a,vs,ns,rfl,rfl,hobj,hints,hlen⟩:=Wg hn hpre hwl
 have hb:=WY (layableW_arg hlay _ A8)
 refine enter_call (codeAny_mono (call w s₀ s₁ mg mb fa o pm cd doc a vs ns hb G Y ho (fd_plain hd) hcd hmg hobj hints hlen hg) fun r s' hq=>?_)
 obtain ⟨rfl,h2,h3,h4⟩:=hq
 exact ⟨.inl ⟨.bool true,.bool true,[],rfl,fun _=>rfl,.bool true,Wh l _,fun _=>⟨List.Pairwise.nil,fun _ hm=>(nomatch hm)⟩⟩,h2,h3,h4⟩
end Att
namespace LS
open PySem PySem.Spec PyProof.Rows L2
def Wp {α:Type} (o:Out α) (Q:α→HD→Prop):Prop:=match o with
 |.ok a h=>Q a h
 |_=>False
section
variable {α β:Type} {o:Out α} {Q Q':α→HD→Prop}
@[simp] theorem B7 (a:α) (h:HD):Wp (.ok a h) Q=Q a h:=rfl
@[simp] theorem Zc8:Wp .stuck Q=False:=rfl
theorem Az {o':Out α} (e:o=o') (h:Wp o' Q):Wp o Q:=e ▸ h
theorem AG {k:α→HD→Out β} {Q:β→HD→Prop}:Wp (o.bind k) Q=Wp o fun a h=>Wp (k a h) Q:=by cases o<;>rfl
theorem Wp.mono (h:Wp o Q) (f:∀a h,Q a h→Q' a h):Wp o Q':=by
 cases o with
 |ok a h'=>exact f _ _ h
 |_=>exact h.elim
theorem Wp.ex (h:Wp o Q):∃a h',o=.ok a h'∧Q a h':=by
 cases o with
 |ok a h'=>exact ⟨a,h',rfl,h⟩
 |_=>exact h.elim
end
def Sm (h h':HD):Prop:=∀(l:Nat) (c:Cell),h[l]?=some c→h'[l]?=some c
theorem Sm.refl (h:HD):Sm h h:=fun _ _ e=>e
theorem Sm.trans {h h1 h2:HD} (a:Sm h h1) (b:Sm h1 h2):Sm h h2:=fun l c e=>b l c (a l c e)
theorem Sm.app (h t:HD):Sm h (h++t):=fun l c e=>by
 rw [Fo (qa2.mp e).1];exact e
def Pu {α:Type} (o:Out α) (h:HD) (a:α):Prop:=Wp o fun x h'=>x=a∧Sm h h'
section
variable {α β:Type} {o:Out α} {h:HD} {a:α}
theorem Pu.wp {Q:α→HD→Prop} (p:Pu o h a) (k:∀h',Sm h h'→Q a h'):Wp o Q:=Wp.mono p fun x h' z1_=>by obtain ⟨e,s⟩:=z1_;subst e;exact k h' s
theorem Pu.ok:Pu (.ok a h) h a:=⟨rfl,.refl _⟩
theorem Pu.bind {k:α→HD→Out β} {b:β} (p:Pu o h a) (q:∀h',Sm h h'→Pu (k a h') h' b):Pu (o.bind k) h b:=by
 unfold Pu
 rw [AG]
 exact p.wp fun h' s=>Wp.mono (q h' s) fun x h2 z2_=>by obtain ⟨e,s2⟩:=z2_;exact (⟨e,s.trans s2⟩)
theorem Pu.noErr (p:Pu o h a):Pu (noErr o) h a:=by
 obtain ⟨x,h',e,q⟩:=Wp.ex p
 rw [e];exact q
end
def QF (i j:Nat) (ρ:Aj) (ds:List D) (h:HD):Out (Fl×Aj):=match ds with
 |[x,y]=>.ok (.nx,(ρ.set i (some x)).set j (some y)) h
 |_=>.stuck
def QG (o:Option Aj) (h:HD):Out (Fl×Aj):=match o with
 |some ρ1=>.ok (.nx,ρ1) h
 |none=>.stuck
def La (g:HD→Out D) (x:D) (h:HD):Out D:=match x with
 |.bl true=>g h
 |.bl false=>.ok (.bl false) h
 |_=>.stuck
def Ny (g:HD→Out D) (x:D) (h:HD):Out D:=match x with
 |.bl true=>.ok (.bl true) h
 |.bl false=>g h
 |_=>.stuck
def QH (x:D) (h:HD):Out D:=match x with
 |.bl b=>.ok (.bl (!b)) h
 |_=>.stuck
def QJ (x:D) (h:HD):Out D:=match x with
 |.int i=>.ok (.int (-i)) h
 |_=>.stuck
@[simp] theorem Zc9 {i j:Nat} {ρ:Aj} {x y:D} {h:HD} {Q:Fl×Aj→HD→Prop}:Wp (QF i j ρ [x,y] h) Q=Q (.nx,(ρ.set i (some x)).set j (some y)) h:=rfl
@[simp] theorem Zda {ρ:Aj} {h:HD} {Q:Fl×Aj→HD→Prop}:Wp (QG (some ρ) h) Q=Q (.nx,ρ) h:=rfl
@[simp] theorem Zdb {g:HD→Out D} {h:HD}:La g (.bl true) h=g h:=rfl
@[simp] theorem Zdc {g:HD→Out D} {h:HD}:La g (.bl false) h=.ok (.bl false) h:=rfl
@[simp] theorem Zdd {g:HD→Out D} {h:HD}:Ny g (.bl true) h=.ok (.bl true) h:=rfl
@[simp] theorem Zde {g:HD→Out D} {h:HD}:Ny g (.bl false) h=g h:=rfl
@[simp] theorem Zdf {b:Bool} {h:HD}:QH (.bl b) h=.ok (.bl (!b)) h:=rfl
@[simp] theorem Zdg {i:Int} {h:HD}:QJ (.int i) h=.ok (.int (-i)) h:=rfl
def Nz (g:MS) (Q:Fl×Aj→HD→Prop):Fl×Aj→HD→Prop
 |(.nx,ρ),h=>Wp (g ρ h) Q
 |y,h=>Q y h
def JE (Q:D→HD→Prop):Fl×Aj→HD→Prop
 |(.nx,_),h=>Q .non h
 |(.rt d,_),h=>Q d h
 |_,_=>False
section
variable {ρ:Aj} {h:HD} {Q:Fl×Aj→HD→Prop} {QB:D→HD→Prop} {g g1 g2:MS} {f:ME} {t:MT}
@[simp] theorem Ai:Nz g Q (.nx,ρ) h=Wp (g ρ h) Q:=rfl
@[simp] theorem Zdh {d:D}:Nz g Q (.rt d,ρ) h=Q (.rt d,ρ) h:=rfl
@[simp] theorem Zdi:JE QB (.nx,ρ) h=QB .non h:=rfl
@[simp] theorem Zdj {d:D}:JE QB (.rt d,ρ) h=QB d h:=rfl
@[simp] theorem Cp:Wp (Ak g1 g2 ρ h) Q=Wp (g1 ρ h) (Nz g2 Q):=by
  unfold Ak
  rw [AG]
  congr 1
  funext x h'
  obtain ⟨fl,ρ1⟩:=x
  cases fl<;>rfl
theorem A4 {n:Nat} {ds:List D}:Wp (Am n g ds h) QB=Wp (g (ds.map some++List.replicate (n - ds.length) none) h) (JE QB):=by
 unfold Am
 rw [AG]
 congr 1
 funext x h'
 obtain ⟨fl,ρ1⟩:=x
 cases fl<;>rfl
@[simp] theorem Zdk:Wp (Bp ρ h) Q=Q (.nx,ρ) h:=rfl
@[simp] theorem Zdl:Wp (Dp f ρ h) Q=Wp (f ρ h) fun _ h1=>Q (.nx,ρ) h1:=by unfold Dp;rw [AG];rfl
@[simp] theorem Zdm:Wp (Av f ρ h) Q=Wp (f ρ h) fun d h1=>Q (.rt d,ρ) h1:=by unfold Av;rw [AG];rfl
@[simp] theorem NA {i:Nat}:Wp (Aw i f ρ h) Q=Wp (f ρ h) fun d h1=>Q (.nx,ρ.set i (some d)) h1:=by unfold Aw;rw [AG];rfl
@[simp] theorem Zdn:Wp (Bh t g1 g2 ρ h) Q=Wp (t ρ h) fun b h1=>Wp (if b=true then g1 ρ h1 else g2 ρ h1) Q:=by unfold Bh;rw [AG]
@[simp] theorem Zdo {i j:Nat} {fa:MA}:Wp (Ic i j fa ρ h) Q=Wp (fa ρ h) fun ds h1=>Wp (QF i j ρ ds h1) Q:=by unfold Ic;rw [AG];rfl
@[simp] theorem Zdp {sg:MG}:Wp (F8 sg f ρ h) Q=Wp (f ρ h) fun d h1=>Wp (QG (sg d ρ) h1) Q:=by unfold F8;rw [AG];rfl
@[simp] theorem Zdq {fo fi fv:ME}:Wp (K8 fo fi fv ρ h) Q=Wp (fv ρ h) fun v h1=>Wp (fo ρ h1) fun o h2=>Wp (fi ρ h2) fun i h3=>Wp (Ij o i v h3 (.ok (.nx,ρ) h3)) Q:=by
  unfold K8;simp only [AG]
end
section
variable {ρ:Aj} {h:HD} {Q:D→HD→Prop} {QB:Bool→HD→Prop} {QA:List D→HD→Prop} {f g k:ME} {t u:MT} {fa:MA} {op op':D→D→HD→Out D} {F:List D→HD→Out D}
@[simp] theorem JF {d:D} {r:Aj}:Wp (Ab 0 (some d::r) h) Q=Q d h:=rfl
@[simp] theorem Lb {i:Nat} {x:Option D} {r:Aj}:Wp (Ab (i+1) (x::r) h) Q=Wp (Ab i r h) Q:=rfl
@[simp] theorem Zdr {d:D}:Wp (mC d ρ h) Q=Q d h:=rfl
@[simp] theorem NB:Wp (Ah op f g ρ h) Q=Wp (f ρ h) fun x h1=>Wp (g ρ h1) fun y h2=>Wp (op x y h2) Q:=by unfold Ah;simp only [AG]
@[simp] theorem Il:Wp (Ag F fa ρ h) Q=Wp (fa ρ h) fun ds h1=>Wp (F ds h1) Q:=by unfold Ag;rw [AG]
@[simp] theorem GJ:Wp (Ad ρ h) QA=QA [] h:=rfl
@[simp] theorem Im:Wp (Aa f fa ρ h) QA=Wp (f ρ h) fun x h1=>Wp (fa ρ h1) fun xs h2=>QA (x::xs) h2:=by unfold Aa;simp only [AG];rfl
@[simp] theorem Zds:Wp (AW fa ρ h) Q=Wp (fa ρ h) fun xs h1=>Wp (if xs.length≤sizeLine then .ok (.tup xs) h1 else .stuck) Q:=by unfold AW;simp only [AG]
@[simp] theorem Zdt:Wp (Ba fa ρ h) Q=Wp (fa ρ h) fun xs h1=>Wp (B6 xs h1) Q:=by unfold Ba;simp only [AG]
@[simp] theorem Zdu:Wp (Bc f ρ h) QB=Wp (f ρ h) fun x h1=>Wp (Jk x h1) QB:=by unfold Bc;rw [AG]
@[simp] theorem Zdv:Wp (BR f ρ h) QB=Wp (f ρ h) fun x h1=>Wp (EW x h1) QB:=by unfold BR;rw [AG]
@[simp] theorem Zdw:Wp (BS t ρ h) QB=Wp (t ρ h) fun b h1=>QB (!b) h1:=by unfold BS;rw [AG];rfl
@[simp] theorem Zdx:Wp (KP t u ρ h) QB=Wp (t ρ h) fun b h1=>Wp (if b=true then u ρ h1 else .ok false h1) QB:=by unfold KP;rw [AG]
@[simp] theorem Zdy:Wp (Cm t u ρ h) QB=Wp (t ρ h) fun b h1=>Wp (if b=true then .ok true h1 else u ρ h1) QB:=by unfold Cm;rw [AG]
@[simp] theorem Zdz:Wp (F0 f g ρ h) Q=Wp (f ρ h) fun x h1=>Wp (La (g ρ) x h1) Q:=by unfold F0;rw [AG];rfl
@[simp] theorem ZdA:Wp (P5 f g ρ h) Q=Wp (f ρ h) fun x h1=>Wp (Ny (g ρ) x h1) Q:=by unfold P5;rw [AG];rfl
@[simp] theorem ZdB:Wp (KR f ρ h) Q=Wp (f ρ h) fun x h1=>Wp (QH x h1) Q:=by unfold KR;rw [AG];rfl
@[simp] theorem ZdC:Wp (Ik f ρ h) Q=Wp (f ρ h) fun x h1=>Wp (QJ x h1) Q:=by unfold Ik;rw [AG];rfl
@[simp] theorem ZdD:Wp (Jn t f g ρ h) Q=Wp (t ρ h) fun b h1=>Wp (if b=true then f ρ h1 else g ρ h1) Q:=by unfold Jn;rw [AG]
@[simp] theorem ZdE:Wp (Fw op op' f g k ρ h) Q=Wp (f ρ h) fun x h1=>Wp (g ρ h1) fun y h2=>Wp (op x y h2) fun z h3=>Wp (La (fun h=>(k ρ h).bind fun w h4=>op' y w h4) z h3) Q:=by unfold Fw;simp only [AG];rfl
@[simp] theorem ZdF:Wp (QE f ρ h) Q=Wp (f ρ h) fun x h1=>Wp (Nx x h1) Q:=by unfold QE;rw [AG]
@[simp] theorem ZdG:Wp (E1 f g ρ h) Q=Wp (f ρ h) fun x h1=>Wp (Df x h1) fun x h1=>Wp (g ρ h1) fun y h2=>Wp (Ii x y h2) Q:=by unfold E1;simp only [AG]
@[simp] theorem ZdH:Wp (Br ρ h) QB=QB true h:=rfl
theorem A2 {xs:List D} (hn:xs.length≤sizeLine) (q:∀l h',Sm h h'→h'[l]?=some (.lst xs)→l=h.length→h'=h++[.lst xs]→Q (.loc l) h'):Wp (B6 xs h) Q:=by
 unfold B6
 rw [if_pos hn]
 exact q h.length _ (.app _ _) (by simp) rfl rfl
end
section
variable {ρ:Aj} {h:HD} {QI:(List D×Bi)→HD→Prop} {f:ME} {fa:MA}
@[simp] theorem ZdI:Wp (Bq f ρ h) QI=Wp (f ρ h) fun d h1=>Wp (FA d h1) QI:=by unfold Bq;rw [AG]
@[simp] theorem ZdJ:Wp (Dq fa ρ h) QI=Wp (fa ρ h) fun d h1=>Wp (Ie d h1) QI:=by unfold Dq;rw [AG]
@[simp] theorem ZdK:Wp (JA fa ρ h) QI=Wp (fa ρ h) fun d h1=>Wp (Jz d h1) QI:=by unfold JA;rw [AG]
@[simp] theorem ZdL:Wp (QC fa ρ h) QI=Wp (fa ρ h) fun d h1=>Wp (Qz d h1) QI:=by unfold QC;rw [AG]
theorem Gd {n:Nat} (hn:n≤1000):Ie [.int (n:Int)] h=.ok ((List.range n).map fun k=>D.int ((k:Nat):Int),[]) h:=by
 have:(-(2^62):Int)≤(n:Int)∧(n:Int)<2^62:=by omega
 unfold Ie
 simp only
 rw [if_pos this]
 simp [Ga]
end
theorem QK {α:Type} {src:Bi} {items:List D} {sg:MG} {t:MT} {f:ME} {ρc:Aj} (φ:α→D) (g:α→Bool) (e:α→D) (ρ1:α→Aj):
 ∀(xs:List α) (h:HD),(∀h',Sm h h'→By src items h')→(∀x∈xs,sg (φ x) ρc=some (ρ1 x))→(∀x∈xs,∀h',Sm h h'→Pu (t (ρ1 x) h') h' (g x))→(∀x∈xs,g x=true→∀h',Sm h h'→Pu (f (ρ1 x) h') h' (e x))→
  Pu (DI src items sg t f ρc (xs.map φ) h) h ((xs.filter g).map e)
 |[],h,hs,_,_,_=>by
  simp only [Gu,List.filter_nil,DI]
  rw [if_pos (hs h (.refl _))]
  exact .ok
 |x::xs,h,hs,hg,ht,hf=>by
  simp only [Bu,DI]
  rw [if_pos (hs h (.refl _)),hg x A8]
  simp only
  refine Pu.bind (ht x A8 h (.refl _)).noErr fun h1 s1=>?_
  have ih:∀h2,Sm h h2→Pu (DI src items sg t f ρc (xs.map φ) h2) h2 ((xs.filter g).map e):=fun h2 s2=>QK φ g e ρ1 xs h2 (fun h' s'=>hs h' (s2.trans s'))
   (fun y hy=>hg y (Bf _ hy)) (fun y hy h' s'=>ht y (Bf _ hy) h' (s2.trans s')) (fun y hy gy h' s'=>hf y (Bf _ hy) gy h' (s2.trans s'))
  cases hgx:g x with
  |false=>
   rw [if_neg BL,List.filter_cons_of_neg (by simp [hgx])]
   exact ih h1 s1
  |true=>
   rw [if_pos rfl,List.filter_cons_of_pos hgx]
   refine Pu.bind (hf x A8 hgx h1 s1).noErr fun h2 s2=>?_
   exact Pu.bind (ih h2 (s1.trans s2)) fun h3 _=>.ok
theorem Ge {α:Type} {xs:List α}:xs.filter (fun _=>true)=xs:=List.filter_eq_self.mpr fun _ _=>rfl
section
variable {α:Type} {cs:List (Option Nat)} {it:MI} {sg:MG} {t:MT} {f:ME} {ρ:Aj} {h:HD} {src:Bi} {xs:List α} {φ:α→D}
theorem E2 {Q:D→HD→Prop} (g:α→Bool) (e:α→D) (ρ1:α→Aj) (hi:Wp (it ρ h) fun x h'=>x=(xs.map φ,src)∧Sm h h'∧∀h2,Sm h' h2→By src (xs.map φ) h2) (hn:xs.length≤sizeLine)
 (hg:∀x∈xs,sg (φ x) (Cn cs ρ)=some (ρ1 x)) (ht:∀x∈xs,∀h',Sm h h'→Pu (t (ρ1 x) h') h' (g x)) (hf:∀x∈xs,g x=true→∀h',Sm h h'→Pu (f (ρ1 x) h') h' (e x))
 (q:∀l h',Sm h h'→h'[l]?=some (.lst ((xs.filter g).map e))→Q (.loc l) h'):Wp (AX cs it sg t f ρ h) Q:=by
 unfold AX
 rw [AG]
 refine Wp.mono hi fun x h1 z4_=>?_
 obtain ⟨ex,s1,hs⟩:=z4_
 subst ex
 rw [if_pos (by simpa using hn),AG]
 refine (QK φ g e ρ1 xs h1 hs hg (fun x hx h' s'=>ht x hx h' (s1.trans s')) (fun x hx gx h' s'=>hf x hx gx h' (s1.trans s'))).wp fun h2 s2=>?_
 refine A2 ?_ fun l h3 s3 e3 _ _=>q l h3 ((s1.trans s2).trans s3) e3
 rw [CA]
 exact Ca (Kh _ _) hn
theorem QL (g:α→Bool) (e:α→D) (ρ1:α→Aj) (hi:Wp (it ρ h) fun x h'=>x=(xs.map φ,src)∧Sm h h'∧∀h2,Sm h' h2→By src (xs.map φ) h2) (hn:xs.length≤sizeLine)
 (hg:∀x∈xs,sg (φ x) (Cn cs ρ)=some (ρ1 x)) (ht:∀x∈xs,∀h',Sm h h'→Pu (t (ρ1 x) h') h' (g x)) (hf:∀x∈xs,g x=true→∀h',Sm h h'→Pu (f (ρ1 x) h') h' (e x)):
 Pu (Ag (An BJ) (Aa (AX cs it sg t f) Ad) ρ h) h (.tup ((xs.filter g).map e)):=by
 unfold Pu
 rw [Il,Im]
 refine E2 g e ρ1 hi hn hg ht hf fun l h' s' e'=>?_
 rw [GJ]
 simp only [An,BJ,e']
 exact ⟨rfl,s'⟩
theorem WZ (e:α→D) (ρ1:α→Aj) (hi:Wp (it ρ h) fun x h'=>x=(xs.map φ,src)∧Sm h h'∧∀h2,Sm h' h2→By src (xs.map φ) h2) (hn:xs.length≤sizeLine)
 (hg:∀x∈xs,sg (φ x) (Cn cs ρ)=some (ρ1 x)) (hf:∀x∈xs,∀h',Sm h h'→Pu (f (ρ1 x) h') h' (e x)):
 Pu (Ag (An BJ) (Aa (AX cs it sg Br f) Ad) ρ h) h (.tup (xs.map e)):=by
 have:=QL (t:=Br) (f:=f) (fun _=>true) e ρ1 hi hn hg (fun x hx h' s'=>(.ok:Pu (.ok true h') h' true)) (fun x hx _ h' s'=>hf x hx h' s')
 rw [Ge] at this
 exact this
theorem FD {β γ:Type} {f:β→Option γ} {g:β→γ}:∀{xs:List β},(∀x∈xs,f x=some (g x))→AV (xs.map f)=some (xs.map g)
 |[],_=>rfl
 |x::xs,hf=>by
  simp only [Bu,hf x A8,AV,FD (fun y hy=>hf y (Bf _ hy)),FT]
theorem W0 (b:α→Bool) (ρ1:α→Aj) (hi:Wp (it ρ h) fun x h'=>x=(xs.map φ,src)∧Sm h h'∧∀h2,Sm h' h2→By src (xs.map φ) h2) (hn:xs.length≤sizeLine)
 (hg:∀x∈xs,sg (φ x) (Cn cs ρ)=some (ρ1 x)) (hf:∀x∈xs,∀h',Sm h h'→Pu (f (ρ1 x) h') h' (.bl (b x))):
 Pu (Ag (An Eo) (Aa (AX cs it sg Br f) Ad) ρ h) h (.bl (xs.all b)):=by
 unfold Pu
 rw [Il,Im]
 refine E2 (fun _=>true) (fun x=>.bl (b x)) ρ1 hi hn hg (fun x hx h' s'=>(.ok:Pu (.ok true h') h' true)) (fun x hx _ h' s'=>hf x hx h' s') fun l h' s' e'=>?_
 rw [GJ]
 rw [Ge] at e'
 simp only [An,Eo,e',Eg]
 rw [FD (f:=Ih∘fun x=>D.bl (b x)) (g:=b) (fun x _=>rfl)]
 refine ⟨?_,s'⟩
 simp [List.all_map]
end
def CV (I:Aj→HD→Prop) (Q:Fl×Aj→HD→Prop):Fl×Aj→HD→Prop
 |(.nx,ρ),h=>I ρ h
 |(.ct,ρ),h=>I ρ h
 |(.bk,ρ),h=>Q (.nx,ρ) h
 |(.rt d,ρ),h=>Q (.rt d,ρ) h
theorem Lc {α:Type} {src:Bi} {items:List D} {sg:MG} {body:MS} {Q:Fl×Aj→HD→Prop} (φ:α→D) (I:List α→Aj→HD→Prop) (ho:∀xs ρ h,I xs ρ h→By src items h)
 (step:∀x xs ρ h,I (x::xs) ρ h→∃ρ1,sg (φ x) ρ=some ρ1∧Wp (body ρ1 h) (CV (I xs) Q)) (done:∀ρ h,I [] ρ h→Q (.nx,ρ) h):∀(xs:List α) (ρ:Aj) (h:HD),I xs ρ h→Wp (Em src items sg body (xs.map φ) ρ h) Q
 |[],ρ,h,i=>by
  simp only [Gu,Em]
  rw [if_pos (ho _ _ _ i)]
  exact done ρ h i
 |x::xs,ρ,h,i=>by
  simp only [Bu,Em]
  rw [if_pos (ho _ _ _ i)]
  obtain ⟨ρ1,e,w⟩:=step x xs ρ h i
  rw [e]
  simp only
  rw [AG]
  refine Wp.mono w fun y h' k=>?_
  obtain ⟨fl,ρ2⟩:=y
  cases fl with
  |nx=>exact Lc φ I ho step done xs ρ2 h' k
  |ct=>exact Lc φ I ho step done xs ρ2 h' k
  |bk=>exact k
  |rt d=>exact k
theorem D8 {α:Type} {src:Bi} {it:MI} {sg:MG} {body:MS} {Q:Fl×Aj→HD→Prop} {ρ:Aj} {h:HD} {xs:List α} (φ:α→D) (I:List α→Aj→HD→Prop) (hi:Wp (it ρ h) fun x h'=>x=(xs.map φ,src)∧I xs ρ h') (ho:∀ys ρ h,I ys ρ h→By src (xs.map φ) h)
 (step:∀x xs ρ h,I (x::xs) ρ h→∃ρ1,sg (φ x) ρ=some ρ1∧Wp (body ρ1 h) (CV (I xs) Q)) (done:∀ρ h,I [] ρ h→Q (.nx,ρ) h):Wp (BZ it sg body ρ h) Q:=by
 unfold BZ
 rw [AG]
 refine Wp.mono hi fun x h1 z5_=>?_
 obtain ⟨e,i⟩:=z5_
 subst e
 exact Lc φ I ho step done xs ρ h1 i
theorem W1 {α β:Type} {f:α→Option β} {ys:List β}:∀{xs:List α},AV (xs.map f)=some ys→∀{g:α→Option β},(∀x∈xs,∀y,f x=some y→g x=some y)→AV (xs.map g)=some ys:=by
 intro xs
 induction xs generalizing ys with
 |nil=>intro e g _;exact e
 |cons x xs ih=>
  intro e g hg
  simp only [Bu] at e ⊢
  cases hx:f x with
  |none=>rw [hx] at e;simp [AV] at e
  |some y=>
   rw [hx] at e
   rw [hg x A8 y hx]
   simp only [AV] at e ⊢
   cases hr:AV (xs.map f) with
   |none=>rw [hr] at e;cases e
   |some zs=>rw [hr] at e;rw [ih hr (fun z hz=>hg z (Bf _ hz))];exact e
theorem JG {h:HD}:∀{n:Nat} {d:D} {p:PyData},AS [] n d=some p→AS h n d=some p
 |n,.non,p,e=>by simpa [AS] using e
 |n,.bl _,p,e=>by simpa [AS] using e
 |n,.int _,p,e=>by simpa [AS] using e
 |n,.str _,p,e=>by simpa [AS] using e
 |n+1,.tup ds,p,e=>by
  simp only [AS] at e ⊢
  cases hr:AV (ds.map (AS [] n)) with
  |none=>rw [hr] at e;cases e
  |some zs=>rw [hr] at e;rw [W1 hr (fun x _ y hy=>JG hy)];exact e
 |0,.tup ds,p,e=>by simp [AS] at e
 |n+1,.loc l,p,e=>by simp [AS] at e
 |0,.loc l,p,e=>by simp [AS] at e
 |n,.scr _,p,e=>by cases n<;>simp [AS] at e
 |n,.adr _,p,e=>by cases n<;>simp [AS] at e
 |n,.ty _,p,e=>by cases n<;>simp [AS] at e
 |n,.exc _ _,p,e=>by cases n<;>simp [AS] at e
 |n,.edic,p,e=>by cases n<;>simp [AS] at e
 |n,.glo _,p,e=>by cases n<;>simp [AS] at e
 |n,.clo _ _ _,p,e=>by cases n<;>simp [AS] at e
def Py (d:D) (p:PyData):Prop:=AS [] 8 d=some p∧SeqAt.shaped p=true
theorem W2 {x y:D} {p q:PyData} {h:HD} (hx:Py x p) (hy:Py y q):DF x y h=.ok (.bl (!PyData.eqv p q)) h:=by
 simp only [DF,Fy,JG hx.1,JG hy.1]
 rw [if_pos ⟨hx.2,hy.2⟩]
@[simp] theorem sz0:(0≤sizeLine)=True:=eq_true (DE _)
@[simp] theorem sz1:(1≤sizeLine)=True:=eq_true (by unfold sizeLine;omega)
@[simp] theorem sz2:(2≤sizeLine)=True:=eq_true (by unfold sizeLine;omega)
@[simp] theorem Ld:(3≤sizeLine)=True:=eq_true (by unfold sizeLine;omega)
@[simp] theorem sz4:(4≤sizeLine)=True:=eq_true (by unfold sizeLine;omega)
@[simp] theorem sz5:(5≤sizeLine)=True:=eq_true (by unfold sizeLine;omega)
section
variable {h:HD} {a b c:D} {ds es:List D} {i j:Int} {F1:D→HD→Out D} {F2:D→D→HD→Out D} {F3:D→D→D→HD→Out D}
@[simp] theorem QM:An F1 [a] h=F1 a h:=rfl
@[simp] theorem ZdM:Bd F2 [a,b] h=F2 a b h:=rfl
@[simp] theorem ZdN:Wm F3 [a,b,c] h=F3 a b c h:=rfl
@[simp] theorem ZdO {b:Bool}:Jk (.bl b) h=.ok b h:=rfl
@[simp] theorem ZdP {b:Bool}:EW (.bl b) h=.ok b h:=rfl
@[simp] theorem ZdQ:EW .non h=.ok false h:=rfl
@[simp] theorem ZdR:EW (.int i) h=.ok (i != 0) h:=rfl
@[simp] theorem ZdS:EW (.tup ds) h=.ok (!ds.isEmpty) h:=rfl
@[simp] theorem ZdT:BH (.int i) (.ty "int") h=.ok (.bl true) h:=rfl
@[simp] theorem ZdU:BH (.int i) (.ty "bool") h=.ok (.bl false) h:=rfl
@[simp] theorem ZdV:BH (.int i) (.ty "tuple") h=.ok (.bl false) h:=rfl
@[simp] theorem ZdW:BH (.tup ds) (.ty "tuple") h=.ok (.bl true) h:=rfl
@[simp] theorem ZdX:BH (.tup ds) (.ty "int") h=.ok (.bl false) h:=rfl
@[simp] theorem ZdY:AL (.int i) (.int j) h=.ok (.int (i+j)) h:=rfl
@[simp] theorem QN {f:Int→Int→D}:F4 f (.int i) (.int j) h=.ok (f i j) h:=rfl
@[simp] theorem ZdZ {b c:Bool}:Wn (.bl b) (.bl c) h=.ok (.bl (b==c)) h:=rfl
@[simp] theorem Zd0 {b c:Bool}:Js (.bl b) (.bl c) h=.ok (.bl (!(b==c))) h:=rfl
@[simp] theorem Zd1:Bn (.tup ds) h=.ok (.int ds.length) h:=rfl
@[simp] theorem Zd2 {ns:List Int}:Bn (.scr ns) h=.ok (.int ns.length) h:=by simp [Bn,BA]
@[simp] theorem Zd3:FA (.tup ds) h=.ok (ds,[]) h:=rfl
@[simp] theorem Zd4:BJ (.tup ds) h=.ok (.tup ds) h:=rfl
@[simp] theorem Zd5:Nx (.tup [a,b]) h=.ok (.tup [b,a]) h:=rfl
@[simp] theorem Zd6:Jw (.int i) (.int j) h=.ok (.int (if j>i then j else i)) h:=rfl
@[simp] theorem Zd7:F7 (.int i) (.int j) h=.ok (.int (if j<i then j else i)) h:=rfl
@[simp] theorem W3 {b:Bool}:GG (.bl b) h=.ok (.int (if b then 1 else 0)) h:=rfl
@[simp] theorem Zd8:GG (.int i) h=.ok (.int i) h:=rfl
@[simp] theorem Zd9 {ρ:Aj} {k:Nat}:A5 k a ρ=some (ρ.set k (some a)):=rfl
@[simp] theorem Zea {ρ:Aj} {k l:Nat}:CD k l (.tup [a,b]) ρ=some ((ρ.set k (some a)).set l (some b)):=rfl
@[simp] theorem Zeb {b c:Bool}:GF (.bl b) (.bl c) h=.ok (.bl (b==c)) h:=rfl
@[simp] theorem Zec {b c:Bool}:DF (.bl b) (.bl c) h=.ok (.bl (!(b==c))) h:=rfl
@[simp] theorem Zed:GF (.int i) (.int j) h=.ok (.bl (i==j)) h:=rfl
@[simp] theorem Zee:DF (.int i) (.int j) h=.ok (.bl (!(i==j))) h:=rfl
theorem Le {l:Nat} (e:h[l]?=some (.lst ds)):BJ (.loc l) h=.ok (.tup ds) h:=by simp only [BJ,e]
theorem GK {l:Nat} (e:h[l]?=some (.lst ds)):Df (.loc l) h=.ok (.loc l) h:=by simp only [Df,e]
theorem JH {l:Nat} (e:h[l]?=some (.lst ds)) (hn:ds.length<sizeLine):Ii (.loc l) a h=.ok .non (h.set l (.lst (ds++[a]))):=by simp only [Ii,e];rw [if_pos hn]
theorem ix_tup {k:Nat} (e:ds[k]?=some a):AC (.tup ds) (.int (k:Nat)) h=.ok a h:=by
 have hk:k<ds.length:=(qa2.mp e).1
 have e1:Dx ds ((k:Nat):Int)=some a:=by
  unfold Dx DZ
  rw [if_pos (by omega),if_pos (by omega)]
  simpa using e
 simp only [AC,BA,e1]
theorem Lf {n k:Nat} {e:Nat→D} (hk:k<n):AC (.tup ((List.range n).map e)) (.int (k:Nat)) h=.ok (e k) h:=ix_tup (by simp [HG,hk])
theorem QP {n:Nat} {e:Nat→D} (hk:0<n):AC (.tup ((List.range n).map e)) (.int 0) h=.ok (e 0) h:=Lf (k:=0) hk
@[simp] theorem Zef:AC (.tup [a,b]) (.int 0) h=.ok a h:=rfl
@[simp] theorem Zeg:AC (.tup [a,b]) (.int 1) h=.ok b h:=rfl
theorem W4 {ns:List Int} {k:Nat} (e:ns[k]?=some i):AC (.scr ns) (.int (k:Nat)) h=.ok (.int i) h:=by
 have hk:k<ns.length:=(qa2.mp e).1
 have e1:Dx (ns.map D.int) ((k:Nat):Int)=some (.int i):=by
  unfold Dx DZ
  rw [if_pos (by omega),if_pos (by simpa using hk)]
  simp [e]
 simp only [AC,BA,e1]
theorem E3 {l k:Nat} (el:h[l]?=some (.lst ds)) (e:ds[k]?=some a):AC (.loc l) (.int (k:Nat)) h=.ok a h:=by
 have hk:k<ds.length:=(qa2.mp e).1
 have e1:Dx ds ((k:Nat):Int)=some a:=by
  unfold Dx DZ
  rw [if_pos (by omega),if_pos (by omega)]
  simpa using e
 simp only [AC,BA,el,e1]
theorem W5 {l k:Nat} {ρ:Aj} (el:h[l]?=some (.lst ds)) (hk:k<ds.length):Ij (.loc l) (.int (k:Nat)) a h (.ok (.nx,ρ) h)=.ok (.nx,ρ) (h.set l (.lst (ds.set k a))):=by
 have:DZ ds.length ((k:Nat):Int)=some k:=by
  unfold DZ
  rw [if_pos (by omega),if_pos (by omega)]
  simp
 simp only [Ij,el,this]
theorem W6 {neg:Bool} {k:Nat} {ks:List Nat}:EY neg (.int (k:Nat)) (.tup (ks.map fun i=>.int ((i:Nat):Int))) h=.ok (.bl (if neg then !ks.contains k else ks.contains k)) h:=by
 have e:AV ((ks.map fun i=>D.int ((i:Nat):Int)).map CT)=some (ks.map fun i=>V.int ((i:Nat):Int)):=by
  rw [Eg]
  exact FD (f:=CT∘fun i=>D.int ((i:Nat):Int)) (fun x _=>rfl)
 have e2:HP (V.int ((k:Nat):Int)) (ks.map fun i=>V.int ((i:Nat):Int))=ks.contains k:=by
  unfold HP
  rw [List.any_map,List.contains_eq_any_beq]
  congr 1
  funext i
  change (((i:Nat):Int)==((k:Nat):Int))=_
  rw [qbD]
  simp
  omega
 simp only [EY,BA,e,CT,e2]
end
noncomputable def JI (cs:List (Option Nat)) (it:MI) (sg:MG) (t:MT) (f:ME):ME:=Ag (An BJ) (Aa (AX cs it sg t f) Ad)
noncomputable def QR (cs:List (Option Nat)) (it:MI) (sg:MG) (t:MT) (f:ME):ME:=Ag (An Eo) (Aa (AX cs it sg t f) Ad)
section
variable {α:Type} {cs:List (Option Nat)} {it:MI} {sg:MG} {t:MT} {f:ME} {ρ:Aj} {h:HD} {src:Bi} {xs:List α} {φ:α→D}
@[simp] theorem Zeh:Ag (An BJ) (Aa (AX cs it sg t f) Ad) ρ h=JI cs it sg t f ρ h:=rfl
@[simp] theorem Zei:Ag (An Eo) (Aa (AX cs it sg t f) Ad) ρ h=QR cs it sg t f ρ h:=rfl
def Cq (o:Out (List D×Bi)) (h:HD) (ds:List D) (src:Bi):Prop:=Wp o fun x h'=>x=(ds,src)∧Sm h h'∧∀h2,Sm h' h2→By src ds h2
theorem W7 (g:α→Bool) (e:α→D) (ρ1:α→Aj) (hi:Cq (it ρ h) h (xs.map φ) src) (hg:∀x∈xs,sg (φ x) (Cn cs ρ)=some (ρ1 x)) (ht:∀x∈xs,∀h',Sm h h'→Pu (t (ρ1 x) h') h' (g x)) (hf:∀x∈xs,g x=true→∀h',Sm h h'→Pu (f (ρ1 x) h') h' (e x)) (hn:xs.length≤sizeLine):
 Pu (JI cs it sg t f ρ h) h (.tup ((xs.filter g).map e)):=QL g e ρ1 hi hn hg ht hf
theorem Io (e:α→D) (ρ1:α→Aj) (hi:Cq (it ρ h) h (xs.map φ) src) (hg:∀x∈xs,sg (φ x) (Cn cs ρ)=some (ρ1 x)) (hf:∀x∈xs,∀h',Sm h h'→Pu (f (ρ1 x) h') h' (e x)) (hn:xs.length≤sizeLine):
 Pu (JI cs it sg Br f ρ h) h (.tup (xs.map e)):=WZ e ρ1 hi hn hg hf
theorem NC (b:α→Bool) (ρ1:α→Aj) (hi:Cq (it ρ h) h (xs.map φ) src) (hg:∀x∈xs,sg (φ x) (Cn cs ρ)=some (ρ1 x)) (hf:∀x∈xs,∀h',Sm h h'→Pu (f (ρ1 x) h') h' (.bl (b x))) (hn:xs.length≤sizeLine):
 Pu (QR cs it sg Br f ρ h) h (.bl (xs.all b)):=W0 b ρ1 hi hn hg hf
theorem Ip {ds:List D}:Cq (Bq (Ab 0) (some (.tup ds)::ρ) h) h ds []:=by
 simp [Cq,Sm.refl,By]
end
theorem QT {α:Type} {xs:List α} {n:α→Int} {h:HD}:CU (.tup (xs.map fun x=>.int (n x))) h=.ok (.int (xs.map n).sum) h:=by
 simp only [CU,BA,Eg]
 rw [FD (f:=FC∘fun x=>D.int (n x)) (g:=n) (fun x _=>rfl)]
section
variable {h:HD} {i j:Int}
theorem Lg (h1:-18446744073709551616<j) (h2:j<18446744073709551616):DJ (.int i) (.int j) h=.ok (.int (i*j)) h:=by
 have:CMl i j:=.inl (.inr ⟨by omega,by omega⟩)
 simp only [DJ];rw [if_pos this]
theorem JJ (h1:-18446744073709551616<i) (h2:i<18446744073709551616):DJ (.int i) (.int j) h=.ok (.int (i*j)) h:=by
 have:CMl i j:=.inl (.inl ⟨by omega,by omega⟩)
 simp only [DJ];rw [if_pos this]
theorem W8 (h1:Builtin.Int.intBits i≤16777216) (h2:Builtin.Int.intBits j≤16777216):DJ (.int i) (.int j) h=.ok (.int (i*j)) h:=by
 have:CMl i j:=.inr ⟨h1,h2⟩
 simp only [DJ];rw [if_pos this]
theorem Iq (h1:0<j):Ek (.int i) (.int j) h=.ok (.int (i % j)) h:=by
 simp only [Ek,intD];rw [if_pos h1]
theorem QU (h1:0<j) (h2:j<18446744073709551616):Jv (.int i) (.int j) h=.ok (.int (i / j)) h:=by
 have:CDv i j:=⟨h1,h2⟩
 simp only [Jv,intD];rw [if_pos this]
theorem W9 (h1:0<j) (h2:j<18446744073709551616):Ju (.int i) (.int j) h=.ok (.tup [.int (i / j),.int (i % j)]) h:=by
 have:CDv i j:=⟨h1,h2⟩
 simp only [Ju];rw [if_pos this]
end
theorem QV {α:Type} {o:Out α} {Q:α→HD→Prop}:Wp (noErr o) Q=Wp o Q:=by cases o<;>rfl
theorem QW {src:Bi} {items:List D} {sg:MG} {t:MT} {f:ME} {ρc:Aj} (φ:Nat→D) (I:HD→Prop) (T:Nat→Bool→Prop) (R:Nat→D→Prop) (ρ1:Nat→Aj) (hs:∀h,I h→By src items h):
 ∀(xs:List Nat) (h:HD),xs.Nodup→I h→(∀x∈xs,sg (φ x) ρc=some (ρ1 x))→(∀x∈xs,∀h,I h→Wp (t (ρ1 x) h) fun b h1=>T x b∧if b=true then Wp (f (ρ1 x) h1) (fun y h2=>I h2∧R x y) else I h1)→
  Wp (DI src items sg t f ρc (xs.map φ) h) fun ys h'=>I h'∧∃(g:Nat→Bool) (e:Nat→D),ys=(xs.filter g).map e∧(∀x∈xs,g x=true→R x (e x))∧∀x∈xs,T x (g x)
 |[],h,_,i,_,_=>by
  simp only [Gu,DI]
  rw [if_pos (hs h i)]
  exact ⟨i,fun _=>true,fun _=>.non,rfl,by simp,by simp⟩
 |x::xs,h,hd,i,hg,ht=>by
  simp only [Bu,DI]
  rw [if_pos (hs h i),hg x A8]
  simp only
  rw [AG,QV]
  rw [qbV] at hd
  refine Wp.mono (ht x A8 h i) fun b h1 z1_=>?_
  obtain ⟨tb,w⟩:=z1_
  have ih:∀h2,I h2→_:=fun h2 i2=>QW φ I T R ρ1 hs xs h2 hd.2 i2 (fun y hy=>hg y (Bf _ hy)) (fun y hy=>ht y (Bf _ hy))
  cases b with
  |false=>
   rw [if_neg BL] at w ⊢
   refine Wp.mono (ih h1 w) ?_
   rintro ys h' ⟨i',g,e,ey,hr,tr⟩
   refine ⟨i',fun y=>if y=x then false else g y,e,?_,?_,?_⟩
   ·rw [List.filter_cons_of_neg (by simp),ey]
    congr 1
    refine List.filter_congr fun y hy=>?_
    rw [if_neg]
    intro z;subst z;exact hd.1 hy
   ·intro y hy gy
    rcases qa4.mp hy with z |z
    ·subst z;simp at gy
    ·refine hr y z ?_
     by_cases hz:y=x
     ·subst hz;exact absurd z hd.1
     ·simpa [hz] using gy
   ·intro y hy
    by_cases hz:y=x
    ·subst hz;simpa using tb
    ·simp only [if_neg hz]
     exact tr y (by rcases qa4.mp hy with z |z;exact absurd z hz;exact z)
  |true=>
   rw [if_pos rfl] at w ⊢
   rw [AG,QV]
   refine Wp.mono w fun y h2 z3_=>?_
   obtain ⟨i2,ry⟩:=z3_
   rw [AG]
   refine Wp.mono (ih h2 i2) ?_
   rintro ys h' ⟨i',g,e,ey,hr,tr⟩
   refine ⟨i',fun z=>if z=x then true else g z,fun z=>if z=x then y else e z,?_,?_,?_⟩
   ·rw [List.filter_cons_of_pos (by simp),Bu,if_pos rfl,ey]
    congr 1
    rw [show xs.filter (fun z=>if z=x then true else g z)=xs.filter g from List.filter_congr fun z hz=>by
     rw [if_neg]
     intro q;subst q;exact hd.1 hz]
    refine HH fun z hz=>?_
    rw [if_neg]
    intro q;subst q;exact hd.1 (qb7.mp hz).1
   ·intro z hz gz
    by_cases q:z=x
    ·subst q;simpa using ry
    ·rcases qa4.mp hz with w |w
     ·exact absurd w q
     ·simp only [if_neg q] at gz ⊢
      exact hr z w gz
   ·intro z hz
    by_cases q:z=x
    ·subst q;simpa using tb
    ·simp only [if_neg q]
     exact tr z (by rcases qa4.mp hz with w |w;exact absurd w q;exact w)
theorem QX {cs:List (Option Nat)} {it:MI} {sg:MG} {t:MT} {f:ME} {ρ:Aj} {h:HD} {src:Bi} {xs:List Nat} {Q:D→HD→Prop} (φ:Nat→D) (I:HD→Prop) (T:Nat→Bool→Prop) (R:Nat→D→Prop) (ρ1:Nat→Aj) (hi:Wp (it ρ h) fun x h'=>x=(xs.map φ,src)∧I h') (hs:∀h,I h→By src (xs.map φ) h)
 (hnew:∀h c,I h→I (h++[c])) (hd:xs.Nodup) (hn:xs.length≤sizeLine) (hg:∀x∈xs,sg (φ x) (Cn cs ρ)=some (ρ1 x)) (ht:∀x∈xs,∀h,I h→Wp (t (ρ1 x) h) fun b h1=>T x b∧if b=true then Wp (f (ρ1 x) h1) (fun y h2=>I h2∧R x y) else I h1)
 (q:∀h' (g:Nat→Bool) (e:Nat→D),I h'→(∀x∈xs,g x=true→R x (e x))→(∀x∈xs,T x (g x))→Q (.tup ((xs.filter g).map e)) h'):Wp (JI cs it sg t f ρ h) Q:=by
 unfold JI
 rw [Il,Im]
 unfold AX
 rw [AG]
 refine Wp.mono hi fun x h1 z5_=>?_
 obtain ⟨ex,i1⟩:=z5_
 subst ex
 rw [if_pos (by simpa using hn),AG]
 refine Wp.mono (QW φ I T R ρ1 hs xs h1 hd i1 hg ht) fun ys h2 z6_=>?_
 obtain ⟨i2,g,e,ey,hr,tr⟩:=z6_
 subst ey
 refine A2 ?_ fun l h3 s3 e3 _ eh=>?_
 ·rw [CA]
  exact Ca (Kh _ _) hn
 ·rw [GJ]
  simp only [An,BJ,e3]
  refine q h3 g e ?_ hr tr
  rw [eh]
  exact hnew _ _ i2
theorem Lh {α:Type} {g:α→PyData}:∀{xs:List α},(∀x∈xs,(g x).canLay0=true)→PyData.canLayAll0 (xs.map g)=true
 |[],_=>rfl
 |x::xs,hx=>by
  rw [Bu,PyData.canLayAll0,hx x A8,Lh fun y hy=>hx y (Bf _ hy)];rfl
theorem Li {α:Type} {g:α→PyData} {n:Nat}:∀{xs:List α},(∀x∈xs,(g x).depth≤n)→PyData.depthAll (xs.map g)≤n
 |[],_=>DE _
 |x::xs,hx=>by
  rw [Bu,PyData.depthAll]
  exact Nat.max_le.mpr ⟨hx x A8,Li fun y hy=>hx y (Bf _ hy)⟩
structure PyN (n:Nat) (d:D) (p:PyData):Prop where
 rd:∀k,n≤k→AS [] k d=some p
 ly:p.canLay0=true
 dp:p.depth≤n
theorem PyN.py {n:Nat} {d:D} {p:PyData} (h:PyN n d p) (hn:n≤8):Py d p:=⟨h.rd 8 hn,by
 unfold SeqAt.shaped
 rw [h.ly]
 have:=h.dp
 simp
 omega⟩
theorem Lj {i:Int}:PyN 0 (.int i) (.int i):=⟨fun k _=>by cases k<;>rfl,rfl,AF _⟩
theorem Ir {α:Type} {n:Nat} {xs:List α} {e:α→D} {g:α→PyData} (hx:∀x∈xs,PyN n (e x) (g x)):PyN (n+1) (.tup (xs.map e)) (.tuple (xs.map g)):=by
 refine ⟨fun k hk=>?_,?_,?_⟩
 ·obtain ⟨k,rfl⟩:∃m,k=m+1:=⟨k - 1,by omega⟩
  simp only [AS,Eg]
  rw [FD (f:=AS [] k∘e) (g:=g) (fun x h=>(hx x h).rd k (by omega))]
  rfl
 ·rw [PyData.canLay0];exact Lh fun x h=>(hx x h).ly
 ·rw [PyData.depth]
  exact Kn (Li fun x h=>(hx x h).dp)
def KD {α:Type}:Sem α→Prop
 |.pure _=>True
 |.raise _=>True
 |.unsupported _=>True
 |.finish _=>True
 |.rule _ k=>KD (k ())
 |.at _ k=>KD (k ())
 |.load _ _ k=>∀o,KD (k o)
 |.update _ _ f k=>(∀o,(f o).dict=o.dict∧(o.isFreed=false→(f o).isFreed=false))∧KD (k ())
 |.loadIfAlive _ k=>∀o,KD (k o)
 |.point _ k=>KD (k ())
 |.register _ _=>True
 |.alloc _ k=>∀a,KD (k a)
 |.fresh k=>∀a,KD (k a)
 |.ask k=>∀a,KD (k a)
 |.choose _ _ k=>∀a,KD (k a)
 |.os _ _ k=>∀a,KD (k a)
 |.call ..=>False
 |.handled _ k=>∀a,KD (k a)
 |.genState _ k=>∀a,KD (k a)
 |.newGen _ k=>∀a,KD (k a)
 |.resume ..=>False
 |.yield ..=>True
 |.stack k=>∀a,KD (k a)
 |.fork ..=>True
 |.thread k=>∀a,KD (k a)
 |.await ..=>True
def Dicts (h h':Heap):Prop:=∀b o,h.get? b=some o→∃o',h'.get? b=some o'∧o'.dict=o.dict
theorem Dicts.refl (h:Heap):Dicts h h:=fun _ o e=>⟨o,e,rfl⟩
theorem Dicts.trans {h h1 h2:Heap} (a:Dicts h h1) (b:Dicts h1 h2):Dicts h h2:=fun c o e=>by
 obtain ⟨o1,e1,d1⟩:=a c o e
 obtain ⟨o2,e2,d2⟩:=b c o1 e1
 exact ⟨o2,e2,d2.trans d1⟩
theorem Xa {α:Type} {M:Model} {Γ:PySem.Ctx} {Q:α→Pos→Shared→Prop} {E:Value→Pos→Shared→Prop}:∀(t:Sem α) (p:Pos) (s:Shared),KD t→Sem.wp M Γ t Q E p s→Sem.wp M Γ t (fun a p s'=>Q a p s'∧Dicts s.heap s'.heap) (fun a p s'=>E a p s'∧Dicts s.heap s'.heap) p s:=by
 have lift:∀(t:Sem α) (p:Pos) (h0:Heap) (s:Shared),Dicts h0 s.heap→Sem.wp M Γ t (fun a p s'=>Q a p s'∧Dicts s.heap s'.heap) (fun a p s'=>E a p s'∧Dicts s.heap s'.heap) p s→Sem.wp M Γ t (fun a p s'=>Q a p s'∧Dicts h0 s'.heap) (fun a p s'=>E a p s'∧Dicts h0 s'.heap) p s:=
  fun t p h0 s d w=>Sem.wp_mono M Γ t (fun a p s' z=>⟨z.1,d.trans z.2⟩) (fun a p s' z=>⟨z.1,d.trans z.2⟩) p s w
 intro t
 induction t with
 |pure a=>exact fun p s _ w=>⟨w,.refl _⟩
 |raise e=>exact fun p s _ w=>⟨w,.refl _⟩
 |unsupported w=>exact fun p s _ w=>w.elim
 |finish w=>exact fun p s _ w=>w.elim
 |rule t k ih=>exact fun p s kd w=>ih () p s kd w
 |«at» t k ih=>exact fun p s kd w=>ih () t s kd w
 |load a x k ih=>exact fun p s kd ⟨o,e,w⟩=>⟨o,e,ih o p s (kd o) w⟩
 |update a x f k ih=>
  refine fun p s kd ⟨e,w⟩=>⟨e,lift _ p s.heap {s with heap:=s.heap.update a f} (fun b o eb=>?_) (ih () p _ kd.2 w)⟩
  by_cases hb:b=a
  ·subst hb
   obtain ⟨d1,d2⟩:=kd.1 o
   exact ⟨f o,Fp f eb (d2 (Heap.get?_some_iff.mp eb).2),d1⟩
  ·exact ⟨o,(IY s.heap f (Ne.symm hb)).trans eb,rfl⟩
 |alloc o k ih=>exact fun p s kd w=>lift _ p s.heap {s with heap:=s.heap.push o} (fun b ob eb=>⟨ob,AB _ eb,rfl⟩) (ih _ p {s with heap:=s.heap.push o} (kd _) w)
 |loadIfAlive a k ih=>exact fun p s kd w=>ih _ p s (kd _) w
 |point l k ih=>exact fun p s kd w=>ih () p s kd w
 |register a k ih=>exact fun p s kd w=>w.elim
 |fresh k ih=>exact fun p s kd w=>ih _ p {s with toks:=s.toks+1} (kd _) w
 |ask k ih=>exact fun p s kd w=>ih _ p s (kd _) w
 |choose src n k ih=>exact fun p s kd ⟨z,w⟩=>⟨z,ih _ p {s with drawn:=s.drawn.bump src} (kd _) w⟩
 |os q l k ih=>exact fun p s kd w=>ih _ p {s with os:=(Os.step s.os q).1} (kd _) w
 |call c h g l k ih=>exact fun p s kd w=>kd.elim
 |handled o k ih=>exact fun p s kd w=>ih _ p s (kd _) w
 |newGen c k ih=>exact fun p s kd w=>ih _ p {s with gens:=s.gens.push (.fresh c)} (kd _) w
 |genState g k ih=>exact fun p s kd ⟨st,e,w⟩=>⟨st,e,ih _ p s (kd _) w⟩
 |resume g r l k ih=>exact fun p s kd w=>kd.elim
 |yield v g l k ih=>exact fun p s kd w=>w.elim
 |stack k ih=>exact fun p s kd w=>ih _ p s (kd _) w
 |fork c k ih=>exact fun p s kd w=>w.elim
 |thread k ih=>exact fun p s kd w=>ih _ p s (kd _) w
 |await a t b l k ih=>exact fun p s kd w=>w.elim
theorem JK {α:Type} {M:Model} {A:Around} {t:Sem α} {Q:α→Shared→Prop} {E:Value→Shared→Prop} {s:Shared} (kd:KD t) (h:wpAny M A t Q E s):wpAny M A t (fun a s'=>Q a s'∧Dicts s.heap s'.heap) (fun a s'=>E a s'∧Dicts s.heap s'.heap) s:=
 fun Γ p hΓ=>Xa t p s kd (h Γ p hΓ)
theorem KD.bind {α β:Type} {f:α→Sem β}:∀{t:Sem α},KD t→(∀a,KD (f a))→KD (t >>=f):=by
 intro t
 induction t with
 |pure a=>exact fun _ h=>h a
 |raise e=>exact fun _ _=>True.intro
 |unsupported w=>exact fun _ _=>True.intro
 |finish w=>exact fun _ _=>True.intro
 |rule t k ih=>exact fun kd h=>ih () kd h
 |«at» t k ih=>exact fun kd h=>ih () kd h
 |load a x k ih=>exact fun kd h o=>ih o (kd o) h
 |update a x g k ih=>exact fun kd h=>⟨kd.1,ih () kd.2 h⟩
 |alloc o k ih=>exact fun kd h a=>ih a (kd a) h
 |loadIfAlive a k ih=>exact fun kd h a=>ih a (kd a) h
 |point l k ih=>exact fun kd h=>ih () kd h
 |register a k ih=>exact fun kd h=>True.intro
 |fresh k ih=>exact fun kd h a=>ih a (kd a) h
 |ask k ih=>exact fun kd h a=>ih a (kd a) h
 |choose src n k ih=>exact fun kd h a=>ih a (kd a) h
 |os q l k ih=>exact fun kd h a=>ih a (kd a) h
 |call c h g l k ih=>exact fun kd h=>kd.elim
 |handled o k ih=>exact fun kd h a=>ih a (kd a) h
 |newGen c k ih=>exact fun kd h a=>ih a (kd a) h
 |genState g k ih=>exact fun kd h a=>ih a (kd a) h
 |resume g r l k ih=>exact fun kd h=>kd.elim
 |yield v g l k ih=>exact fun kd h=>True.intro
 |stack k ih=>exact fun kd h a=>ih a (kd a) h
 |fork c k ih=>exact fun kd h=>True.intro
 |thread k ih=>exact fun kd h a=>ih a (kd a) h
 |await a t b l k ih=>exact fun kd h=>True.intro
theorem Gf {α:Type} {c:Prop} [Decidable c] {a b:Sem α} (ha:KD a) (hb:KD b):KD (if c then a else b):=by split<;>assumption
theorem ND {a:Addr}:KD (load a):=fun _=>True.intro
theorem Xb {f:Array Value→Array Value} (o:Obj):(Obj.mapFields f o).dict=o.dict∧(o.isFreed=false→(Obj.mapFields f o).isFreed=false):=by
 obtain ⟨c,d,dt,sl⟩:=o
 cases dt<;>exact ⟨rfl,fun h=>h⟩
theorem Xd {v:Value}:KD (fieldsOf v):=by
 unfold fieldsOf
 split
 ·exact KD.bind ND fun o=>by split<;>exact True.intro
 ·exact True.intro
theorem Lk {v:Value} {i:Nat}:KD (field v i):=by
 unfold field
 exact KD.bind Xd fun o=>by split<;>exact True.intro
theorem NF {v x:Value} {i:Nat}:KD (setField v i x):=by
 unfold setField
 split
 ·unfold updateField
  refine KD.bind ND fun o=>?_
  split
  ·exact Gf ⟨Xb,True.intro⟩ True.intro
  ·exact True.intro
 ·exact True.intro
theorem NG {v:Value} {o:Option Addr}:KD (setFlight v o):=by
 unfold setFlight
 exact KD.bind Lk fun o=>Gf NF True.intro
theorem Xe {n:String} {vs:List Value}:KD (newFields n vs):=by
 unfold newFields newObj
 unfold newObjAsIs
 dsimp only
 split
 ·exact True.intro
 ·exact fun a=>True.intro
theorem QY:∀{l:List Env},KD (readyFrames l)
 |[]=>True.intro
 |env::outer=>by
  unfold readyFrames
  split
  ·refine KD.bind ND fun o=>Gf True.intro (KD.bind ?_ fun b=>KD.bind ?_ fun v=>KD.bind ⟨fun o=>⟨rfl,fun h=>?_⟩,True.intro⟩ fun _=>QY)
   ·unfold behindIsImport
    exact Gf True.intro (Gf True.intro (KD.bind Lk fun _=>True.intro))
   ·unfold keptBack
    split
    ·exact Gf True.intro fun _=>True.intro
    ·exact True.intro
   ·obtain ⟨c,d,dt,sl⟩:=o
    cases dt<;>exact h
  ·exact True.intro
theorem Xf {env:Env}:KD (PySem.frameOf env):=by
 unfold PySem.frameOf
 refine KD.bind (fun _=>True.intro) fun l=>KD.bind ?_ fun o=>?_
 ·unfold frameObject
  split
  ·exact True.intro
  ·exact KD.bind QY fun _=>True.intro
 ·split<;>exact True.intro
theorem Xg {f:Addr} {b:Bool}:KD (entryPlaceOf f b):=by
 unfold entryPlaceOf
 intro l
 show KD (match l.find? _ with |some (_,pos)=>_ |none=>_)
 split<;>exact True.intro
theorem QZ {e:Value} {env:Env}:KD (noteFrame e env):=by
 unfold noteFrame
 split
 ·refine KD.bind Lk fun hd=>?_
  have A1:∀f:Addr,KD (do setField e 1 (←EntryCells.newEntry hd (←PySem.frameOf env) .none (rawInt f) .none (←entryPlaceOf f (hd != .none)))):=fun f=>
   KD.bind Xf fun _=>KD.bind Xg fun _=>KD.bind Xe fun _=>NF
  refine Gf (KD.bind Lk fun x=>Gf True.intro (KD.bind NF fun _=>?_)) ?_
  ·exact A1 _
  ·exact A1 _
 ·exact True.intro
theorem Q0 {e:Value} {env:Env}:KD (leaving env e):=by
 unfold leaving
 exact KD.bind QZ fun _=>NG
open Classical in
noncomputable def blank (p:Addr→Prop) (h:Heap):Heap:=⟨h.objs.mapIdx fun i o=>if p i then {o with data:=.freed} else o,h.life⟩
theorem GL {p:Addr→Prop} {h:Heap} {b:Addr} (hp:p b):(blank p h).get? b=none:=by
 unfold blank Heap.get?
 simp only [Array.getElem?_mapIdx]
 cases e:h.objs[b]? with
 |none=>rfl
 |some o=>simp [hp]
theorem GM {p:Addr→Prop} {h:Heap} {b:Addr} (hp:¬p b):(blank p h).get? b=h.get? b:=by
 unfold blank Heap.get?
 simp only [Array.getElem?_mapIdx]
 cases e:h.objs[b]? with
 |none=>rfl
 |some o=>simp [hp]
theorem NH {p:Addr→Prop} {h:Heap}:(blank p h).StaysIn h:=fun b o e=>by
 by_cases hp:p b
 ·rw [GL hp] at e;cases e
 ·rw [GM hp] at e;exact e
inductive Ll (h0 h:Heap) (H:Hp) (a:Addr) (C:Value) (da:Option Addr):Prop where
 |mk (new:h0.get? a=none) (no:H a=none) (oe:Obj) (vs:Array Value) (a0:Value) (T:Addr) (oT:Obj) (ts:Array Value) (e1:h.get? a=some oe) (e2:oe.cls=C∧vs[0]?=some a0) (e3:oe.data=.fields vs) (e4:vs[1]?=some (.ref T)) (e5:h0.get? T=none) (e6:H T=none) (e7:T≠a) (e8:h.get? T=some oT) (e9:oT.data=.fields ts) (e10:ts[3]?=some .none) (e11:oe.dict=da):Ll h0 h H a C da
abbrev Es (n:Str):Value:=.str n 0
inductive As (P:Program) (w:World) (K:PySem.W.Frag) (outer:List Env) (H:Hp) (s:Shared) (E:XK) (e:Value) (s':Shared):Prop where
 |mk (a C:Addr) (n:Str) (da:Option Addr) (H':Hp) (ee:e=.ref a) (os:s'.os=s.os) (bare:AllBare s'.gens) (un:Un (frs outer) [] H H' s.heap s'.heap) (hok:HOk P w H' s'.heap) (fly:Ll s.heap s'.heap H' a (.ref C) da) (nm:PySem.W.nsIn K mainGlobals n=some (some (.ref C))) (q:E (Es n) da H'):As P w K outer H s E e s'
theorem Lm {h base:Heap} {p:Addr→Prop}:∀{l:List Env},h.FunFrames base l→(∀b∈frs l,p b)→h.FunFrames (blank p h) l
 |[],_,_=>trivial
 |env::rest,⟨k,⟨L,o,hf,_,ho,hd⟩,r⟩,hp=>⟨k,⟨L,o,hf,GL (hp L (by unfold frs;rw [HF,hf];exact A8)),ho,hd⟩,
  Lm r fun b hb=>hp b (by
   unfold frs at hb ⊢
   rw [HF,hf]
   exact Bf _ hb)⟩
theorem NI {P:Program} {w:World} {H:Hp} {h:Heap} {a:Addr} {o:HO} (x:ObjOk P w H h a o):∃ob,h.get? a=some ob:=by
 cases o with
 |lst xs=>obtain ⟨_,_,_,_,e⟩:=x;exact ⟨_,e⟩
 |tup xs=>obtain ⟨_,_,_,⟨_,e,_⟩,_⟩:=x;exact ⟨_,e⟩
 |own y=>exact x
 |xd fs=>obtain ⟨_,⟨_,_,_,e,_⟩,_⟩:=x;exact ⟨_,e⟩
 |frz ob u=>obtain ⟨e,_⟩:=x;exact ⟨_,e⟩
 |tbl ps=>exact ⟨_,x⟩
 |ext φ=>exact x.2.1
 |mex φ=>exact x.2.1
structure Lv (X:Cx) (E:XK):Prop where
 xe:∀e s',wpAny (model X.prog X.w) X.A (leaving X.env e) (fun _ s''=>As X.prog X.w X.K X.outer X.H₀ X.s₀ E e s'') (fun e' s''=>As X.prog X.w X.K X.outer X.H₀ X.s₀ E e' s'') s'→X.xe e s'
 stk:X.stack=X.env::X.outer
 fr:X.env.frame=some X.env.locals
 ex:X.ex=[]
theorem Iu {P:Program} {w:World} {K:PySem.W.Frag} {mg:Str→Option Value} {base:Heap} {N:List Str} {qual:Str} {scope:Scope} {f:Addr} {cd:Value} {A:Around} {outer:List Env} {s:Shared} {H:Hp} {E:XK}:Lv (AI (As P w K) P w K mg base N qual scope f cd A outer s H E) E:=
 ⟨fun _ _ h=>h,rfl,rfl,rfl⟩
section
variable {X:Cx} {E:XK}
theorem Lv.frs (lv:Lv X E):L2.frs X.stack=X.env.locals::X.fs:=by
 rw [lv.stk];unfold L2.frs;rw [HF,lv.fr];rfl
theorem Q1 {pins:List (Addr×Obj)} {σ:L2.St} {H':Hp} {s':Shared} {h':Heap} {a T:Addr} {C:Value} (lv:Lv X E)
 (I:Inv X pins σ H' s')
 (na:X.s₀.heap.get? a=none) (nT:X.s₀.heap.get? T=none) (ha:H' a=none) (hT:H' T=none) {a0:Value}
 (L:Heap.LeftW (blank (fun b=>b=a∨b=T∨b∈frs X.stack) s'.heap) X.stack a C a0 s'.heap h') {da:Option Addr} {oa:Obj} (ea:s'.heap.get? a=some oa) (ed:oa.dict=da) (dd:Dicts s'.heap h'):
 Un X.fs [] X.H₀ H' X.s₀.heap h'∧HOk X.prog X.w H' h'∧Ll X.s₀.heap h' H' a C da:=by
 obtain ⟨stay,ff,⟨oe,vs,T2,oT,ts,e1,e2,e3,e4,e5,e6,e7,e8,e9⟩,ups⟩:=L
 have e11:oe.dict=da:=by
  obtain ⟨o',q1,q2⟩:=dd a oa ea
  rw [e1] at q1
  cases q1
  exact q2.trans ed
 have B:Un X.fs [] X.H₀ H' X.s₀.heap s'.heap:=by have:=I.base;rw [lv.ex] at this;exact this
 have stk:=I.stack
 have frNone:∀b∈frs X.stack,H' b=none:=fun b hb=>I.stkFree b hb
 have keepOf:∀b o,¬(b=a∨b=T∨b∈frs X.stack)→s'.heap.get? b=some o→h'.get? b=some o:=fun b o hb e=>stay b o (by rw [GM hb];exact e)
 have notL:∀b o,X.s₀.heap.get? b=some o→b∉X.fs→b∉frs X.stack:=fun b o e hb z=>by
  rw [lv.frs] at z
  rcases qa4.mp z with z |z
  ·have:=AE e
   rw [z] at this
   exact absurd (A0 this I.ok.above) (Dw _)
  ·exact hb z
 have old:∀b o,X.s₀.heap.get? b=some o→b≠a∧b≠T:=fun b o e=>⟨fun z=>(by rw [z,na] at e;cases e),fun z=>(by rw [z,nT] at e;cases e)⟩
 have noFields:∀b,b∈frs X.stack→∃o,s'.heap.get? b=some o∧∀vs,o.data≠.fields vs:=fun b hb=>(stk.mem hb).2
 have any:∀b o,X.s₀.heap.get? b=some o→s'.heap.get? b≠none→∃o',h'.get? b=some o':=fun b o e hn=>by
  cases e':s'.heap.get? b with
  |none=>exact absurd e' hn
  |some o'=>
   by_cases hb:b∈frs X.stack
   ·obtain ⟨o2,h2,d2⟩:=noFields b hb
    obtain ⟨sl,h3⟩:=ups b o2 h2 d2
    exact ⟨_,h3⟩
   ·exact ⟨o',keepOf b o' (fun z=>by rcases z with z |z |z;exact (old b o e).1 z;exact (old b o e).2 z;exact hb z) e'⟩
 refine ⟨⟨fun b o e n hb hx=>?_,fun b o e n hb hx=>?_,B.free,fun b o e hx=>?_,B.tups,B.frzs,B.tbls⟩,fun b o e=>?_,na,ha,oe,vs,a0,T2,oT,ts,e1,e2,e3,e4,?_,?_,e6,e7,e8,e9,e11⟩
 ·exact keepOf b o (fun z=>by rcases z with z |z |z;exact (old b o e).1 z;exact (old b o e).2 z;exact notL b o e hb z) (B.keep b o e n hb hx)
 ·obtain ⟨sl,h1⟩:=B.slot b o e n hb hx
  have hb':b∈frs X.stack:=by rw [lv.frs];exact Bf _ hb
  obtain ⟨o2,h2,d2⟩:=noFields b hb'
  rw [h1] at h2
  cases h2
  obtain ⟨sl2,h3⟩:=ups b _ h1 d2
  exact ⟨sl2,h3⟩
 ·obtain ⟨o',h1⟩:=B.there b o e hx
  exact any b o e (by rw [h1];simp)
 ·refine (I.hok b o e).stay (fun c u hc q=>keepOf c u (fun z=>?_) q) (fun _ q=>q) fun _ _ q=>q
  have hc':H' c≠none:=by
   rcases hc with rfl |hc
   ·rw [e];simp
   ·rw [hc];simp
  rcases z with z |z |z
  ·exact hc' (z ▸ ha)
  ·exact hc' (z ▸ hT)
  ·exact hc' (frNone c z)
 ·cases q:X.s₀.heap.get? T2 with
  |none=>rfl
  |some o=>
   exfalso
   obtain ⟨o',h1⟩:=B.there T2 o q (by simp)
   by_cases hb:T2∈frs X.stack
   ·obtain ⟨o2,h2,d2⟩:=noFields T2 hb
    obtain ⟨sl,h3⟩:=ups T2 o2 h2 d2
    rw [h3] at e7
    cases e7
    exact d2 _ e8
   ·rw [GM (fun z=>by rcases z with z |z |z;exact (old T2 o q).1 z;exact (old T2 o q).2 z;exact hb z),h1] at e5
    cases e5
 ·cases q:H' T2 with
  |none=>rfl
  |some o=>
   exfalso
   by_cases hb:T2=a∨T2=T∨T2∈frs X.stack
   ·rcases hb with z |z |z
    ·rw [z,ha] at q;cases q
    ·rw [z,hT] at q;cases q
    ·rw [frNone T2 z] at q;cases q
   ·rw [GM hb] at e5
    obtain ⟨ob,eb⟩:=NI (I.hok T2 o q)
    rw [eb] at e5
    cases e5
theorem Lv.older (lv:Lv X E) {pins:List (Addr×Obj)} {σ:L2.St} {H1:Hp} {s1:Shared} (I:Inv X pins σ H1 s1):∀b,s1.heap.get? b=none→X.s₀.heap.get? b=none:=fun b hb=>by
 cases q:X.s₀.heap.get? b with
 |none=>rfl
 |some o=>
  obtain ⟨o',h1⟩:=I.base.there b o q (by rw [lv.ex];simp)
  rw [hb] at h1;cases h1
theorem NJ (lv:Lv X E):EU (As X.prog X.w X.K) X E:=by
 rintro pins σ H1 s1 e s' I ⟨a,C,n,da,H',ee,os,bare,un,hok,fly,nm,q⟩
 subst ee
 have I':Inv X pins σ H' s':=I.call' os un hok bare (fun b hb=>absurd hb (by simp))
 obtain ⟨fnew,fno,oe,vs,a0,T,oT,ts,e1,e2,e3,e4,e5,e6,e7,e8,e9,e10,e11⟩:=fly
 have fro:X.A.frames=some (X.env::X.outer):=by rw [←lv.stk];exact I'.ok.frames
 have stk:s'.heap.FunFrames X.base (X.env::X.outer):=by have:=I'.stack;rw [lv.stk] at this;exact this
 have run:=JK Q0 (wpAny_leaving_nextW (M:=model X.prog X.w) (E:=fun _ _=>False) (Q:=fun _ s''=>∃h',s''={s' with heap:=h'}∧Heap.LeftW (blank (fun b=>b=a∨b=T∨b∈frs X.stack) s'.heap) (X.env::X.outer) a (.ref C) a0 s'.heap h') (base:=blank (fun b=>b=a∨b=T∨b∈frs X.stack) s'.heap) (cls:=.ref C) (a0:=a0) fro (Lm stk fun b hb=>.inr (.inr (by rw [lv.stk];exact hb))) lv.fr
  ⟨oe,vs,T,oT,ts,e1,e2,e3,e4,GL (.inr (.inl rfl)),e7,e8,e9,e10⟩ NH (GL (.inl rfl)) fun h' L=>⟨h',rfl,L⟩)
 refine lv.xe _ _ (wpAny_mono run (fun _ s'' z=>?_) fun _ _ z=>z.1.elim)
 obtain ⟨⟨h',rfl,L⟩,D⟩:=z
 obtain ⟨u1,u2,u3⟩:=Q1 lv I' (lv.older I a fnew) (lv.older I T e5) fno e6 (by rw [lv.stk] at *;exact L) e1 e11 D
 exact ⟨a,C,n,da,H',rfl,I'.os,bare,u1,u2,u3,nm,q⟩
theorem Xh (lv:Lv X E) {pins:List (Addr×Obj)} {σ:L2.St} {H1:Hp} {s1:Shared} {a C:Addr} {n:Str} {da:Option Addr} {oe:Obj} {vs:Array Value} {a0:Value} (I':Inv X pins σ H1 s1)
 (e1:s1.heap.get? a=some oe) (ec:oe.cls=.ref C) (e3:oe.data=.fields vs) (v0:vs[0]?=some a0) (v1:vs[1]?=some .none) (ed:oe.dict=da) (new:X.s₀.heap.get? a=none) (fresh:H1 a=none) (nm:PySem.W.nsIn X.K mainGlobals n=some (some (.ref C))) (q:E (Es n) da H1):X.xe (.ref a) s1:=by
 have fro:X.A.frames=some (X.env::X.outer):=by rw [←lv.stk];exact I'.ok.frames
 have stk:s1.heap.FunFrames X.base (X.env::X.outer):=by have:=I'.stack;rw [lv.stk] at this;exact this
 have run:=JK Q0 (wpAny_leaving_firstW (M:=model X.prog X.w) (E:=fun _ _=>False) (Q:=fun _ s''=>∃h',s''={s1 with heap:=h'}∧Heap.LeftW (blank (fun b=>b=a∨b=a∨b∈frs X.stack) s1.heap) (X.env::X.outer) a oe.cls a0 s1.heap h') (base:=blank (fun b=>b=a∨b=a∨b∈frs X.stack) s1.heap) (a0:=a0) fro (Lm stk fun b hb=>.inr (.inr (by rw [lv.stk];exact hb))) lv.fr
  e1 NH (GL (.inl rfl)) e3 v1 v0 fun h2 L=>⟨h2,rfl,L⟩)
 refine lv.xe _ _ (wpAny_mono run (fun _ s'' z=>?_) fun _ _ z=>z.1.elim)
 obtain ⟨⟨h',rfl,L⟩,D⟩:=z
 obtain ⟨u1,u2,u3⟩:=Q1 lv I' new new fresh fresh (by rw [lv.stk] at *;exact L) e1 ed D
 rw [ec] at u3
 exact ⟨a,C,n,da,H1,rfl,I'.os,I'.bare,u1,u2,u3,nm,q⟩
theorem Xi (lv:Lv X E) {pins:List (Addr×Obj)} {σ:L2.St} {H1:Hp} {s1:Shared} {h':Heap} {a C:Addr} {n:Str} {vs:List Value} (I:Inv X pins σ H1 s1)
 (m:Heap.MadeExcOf s1.heap h' a (.ref C) vs) (nm:PySem.W.nsIn X.K mainGlobals n=some (some (.ref C))) (q:E (Es n) none H1):X.xe (.ref a) {s1 with heap:=h'}:=by
 have I':Inv X pins σ H1 {s1 with heap:=h'}:=I.kept m.keeps
 obtain ⟨t,e1,e2,e3⟩:=m.there
 have fresh:H1 a=none:=by
  cases q:H1 a with
  |none=>rfl
  |some o=>
   obtain ⟨ob,eb⟩:=NI (I.hok a o q)
   rw [m.new] at eb;cases eb
 exact Xh lv I' e1 rfl rfl rfl rfl rfl (lv.older I a m.new) fresh nm q
end
section
variable {P:Program} {w:World} {K:PySem.W.Frag} {mg:Str→Option Value} {base:Heap} {N:List Str} {qual:Str} {scope:Scope} {f:Addr} {cd:Value} {A:Around} {outer:List Env} {s:Shared} {H:Hp} {E:XK}
theorem AM:EU (As P w K) (AI (As P w K) P w K mg base N qual scope f cd A outer s H E) E:=NJ Iu
theorem Xj {pins:List (Addr×Obj)} {σ:L2.St} {H1:Hp} {s1:Shared} {h':Heap} {a C:Addr} {n:Str} {vs:List Value} (I:Inv (AI (As P w K) P w K mg base N qual scope f cd A outer s H E) pins σ H1 s1)
 (m:Heap.MadeExcOf s1.heap h' a (.ref C) vs) (nm:PySem.W.nsIn K mainGlobals n=some (some (.ref C))) (q:E (Es n) none H1):(AI (As P w K) P w K mg base N qual scope f cd A outer s H E).xe (.ref a) {s1 with heap:=h'}:=Xi Iu I m nm q
end
inductive Q2 (h:Heap) (C:Addr) (bmB:List Value) (newId:String):Prop where
 |mk (bm:List Value) (N:Addr) (nm q:Str) (bs:List Value) (hdct:Bool) (sn:List Str) (sub:List Value) (ab:Bool) (col:Option Bool) (dd:Option Addr) (k0 k1 k2 k3 k5:Option Value) (mN:Str→Option Value)
  (hC:h.get? C=some (excClassObj nm q C N bs bm hdct sn sub ab col dd k0 k1 k2 k3 k5 newId)) (hN:h.Ns N mN) (hni:mN "__init__"=none) (T:OwnTail h bmB bm):Q2 h C bmB newId
def NK (K:PySem.W.Frag) (C:Addr) (bmB:List Value) (newId:String):Prop:=∀h:Heap,K.In h→Q2 h C bmB newId
def clsOf:Data→Option ClassData
 |.cls c=>some c
 |_=>none
theorem Xk {d:Data} {c:ClassData} (h:clsOf d=some c):d=.cls c:=by
 cases d<;>first |(cases h;rfl) |cases h
inductive Q3 {α:Type} (l:List α):Prop where
 |mk (a b c d e f:α) (q:l=[a,b,c,d,e,f]):Q3 l
theorem Xl {α:Type} {l:List α} (h:l.length=6):Q3 l:=by
 cases l with
 |nil=>cases h
 |cons a l=>cases l with
  |nil=>cases h
  |cons b l=>cases l with
   |nil=>cases h
   |cons c l=>cases l with
    |nil=>cases h
    |cons d l=>cases l with
     |nil=>cases h
     |cons e l=>cases l with
      |nil=>cases h
      |cons f l=>cases l with
       |nil=>exact ⟨a,b,c,d,e,f,rfl⟩
       |cons g l=>cases h
def Ln (K:PySem.W.Frag) (C:Addr) (bmB:List Value) (newId:String) (o:Obj) (cd:ClassData):Bool:=
 decide (o.cls=.type "type")&&(decide (cd.mro=.ref C::cd.mro.tail)&&(!cd.hasDel&&(PySem.W.tailIn K bmB cd.mro.tail&&(PySem.W.nsOkIn K cd.ns&&(PySem.W.nsIn K cd.ns "__init__"==some none&&(decide (o.slots.toList.length=6)&&decide (o.slots.toList[4]?=some (some (.builtin newId)))))))))
def NL (K:PySem.W.Frag) (C:Addr) (bmB:List Value) (newId:String):Bool:=match K.lookup C with
 |some o=>(match clsOf o.data with
  |some cd=>Ln K C bmB newId o cd
  |none=>false)
 |none=>false
theorem Xm {K:PySem.W.Frag} {C:Addr} {bmB:List Value} {newId:String} (q:NL K C bmB newId=true):NK K C bmB newId:=by
 intro h X
 unfold NL at q
 cases lk:K.lookup C with
 |none=>rw [lk] at q;cases q
 |some o=>
  rw [lk] at q
  replace q:(match clsOf o.data with |some cd=>Ln K C bmB newId o cd |none=>false)=true:=q
  cases ec:clsOf o.data with
  |none=>rw [ec] at q;cases q
  |some cd=>
   rw [ec] at q
   replace q:Ln K C bmB newId o cd=true:=q
   unfold Ln at q
   simp only [CP,decide_eq_true_eq,Bool.not_eq_true',beq_iff_eq] at q
   obtain ⟨e1,e2,e3,e4,e5,e6,e7,e8⟩:=q
   obtain ⟨cls,od,dt,⟨sl⟩⟩:=o
   obtain ⟨nm,bs,mro,ns,qn,hd,sn,sub,ab,col,del⟩:=cd
   replace ec:=Xk ec
   simp only at ec e1 e2 e3 e4 e5 e6 e7 e8
   obtain ⟨k0,k1,k2,k3,k4,k5,rfl⟩:=Xl e7
   cases mro with
   |nil=>cases e2
   |cons c bm=>
    cases e2
    cases Option.some.inj e8
    subst ec e1 e3
    exact ⟨_,_,_,_,_,_,_,_,_,_,_,_,_,_,_,_,h.nsMap ns,X _ _ lk,.of_isNs (PySem.W.isNs_of_in X e5),PySem.W.nsMap_none_of_in X e5 e6,PySem.W.tail_of_in X e4⟩
abbrev JL:List Value:=[.type "ValueError",.type "Exception",.type "BaseException",.type "object"]
def NM (X:Cx) (E:XK):Prop:=∀(pins:List (Addr×Obj)) (σ:L2.St) (H1:Hp) (s1:Shared) (h':Heap) (a C:Addr) (n:Str) (vs:List Value),Inv X pins σ H1 s1→Heap.MadeExcOf s1.heap h' a (.ref C) vs→PySem.W.nsIn X.K mainGlobals n=some (some (.ref C))→E (Es n) none H1→X.xe (.ref a) {s1 with heap:=h'}
theorem Q4 {P:Program} {w:World} {K:PySem.W.Frag} {mg:Str→Option Value} {base:Heap} {N:List Str} {qual:Str} {scope:Scope} {f:Addr} {cd:Value} {A:Around} {outer:List Env} {s:Shared} {H:Hp} {E:XK}:
 NM (AI (As P w K) P w K mg base N qual scope f cd A outer s H E) E:=fun pins σ H1 s1 h' a C n vs I m nm q=>Xj I m nm q
section
variable {X:Cx} {E:XK}
def Iv (n:Str) (fa:MA):MS:=fun ρ h=>(fa ρ h).bind fun xs h1=>if xs.length≤sizeLine then .err (Es n) [] h1 else .stuck
theorem Xn {x:Str} {C:Addr} {e:Expr} {es:List Expr} {fa:MA} {np cpos pos:Pos} (O:NK X.K C JL "ValueError.__new__") (nmC:PySem.W.nsIn X.K mainGlobals x=some (some (.ref C))) (hg:Gl X x) (hc:X.calm=true) (th:NM X E) (ha:CS X E (e::es) fa)
 (hdb:(x==("__debug__":Str))=false:=by decide) (he:starEach (e::es) X.env=(false,eval e X.env)::starEach es X.env:=by rfl) (hpl:(backTo cpos (starEach (e::es) X.env)).any (·.1)=false:=by rfl):
 Ex X E (.Raise (some (.Call (.Name x np) (e::es) [] cpos)) none pos) (Iv x fa):=by
 rintro pins s σ H D I ⟨m,ρ,h,hr,er,p⟩
 have hm:X.mg x=some (.ref C):=PySem.W.mg_of I.mod.kin I.mod.glob nmC
 obtain ⟨bm,NN,nm,q,bs,hdct,sn,sub,ab,col,dd,k0,k1,k2,k3,k5,mN,hC,hN,hni,T⟩:=O X.base I.mod.kin
 refine wpAny_Raise_call_subT (C:=C) (nm:=nm) (q:=q) (N:=NN) (bs:=bs) (bm:=bm) (hdct:=hdct) (sn:=sn) (sub:=sub) (ab:=ab) (col:=col) (dd:=dd) (k0:=k0) (k1:=k1) (k2:=k2) (k3:=k3) (k5:=k5)
  PySem.F.excBase_ValueError (mN:=mN) (T.hasType PySem.F.excBase_ValueError.hasBase) (I.ok.hd hc) hpl hni (Gw I hg hm ⟨rfl,?_⟩ hdb)
 have hh:=ha cpos pins s σ H (fun vs H1=>vs.length≤sizeLine∧E (Es x) none H1) I ⟨m,ρ,h,hr,er,PostS.bind p fun xs h1 vs m1 H1 _ p1 k1 hr1 r1 q1=>by
  split at q1
  ·rename_i hz
   exact ⟨by rw [←DVs.len r1];exact hz,q1 none m1 H1 (AQ _) (.refl _) hr1 (fun f d z=>by cases z)⟩
  ·exact q1.elim⟩
 rw [he] at hh ⊢
 exact Calls.evalArgs_plain (Ax hh fun us s1 z1_=>by obtain ⟨vs,H1,I1,r,hl,q1⟩:=z1_;exact (⟨rfl,by rw [←r.length];exact hl,I1.bk _ _ hC,hN.keeps I1.bk,T.keeps I1.bk,fun h' a z=>th pins σ H1 s1 h' a C x us I1 z nmC q1⟩))
inductive E4 (K:PySem.W.Frag) (F:List D→HD→Out D) (vs:List V) (H:Hp) (Q:VK) (E:XK):Prop where
 |mk (m:List Addr) (ds:List D) (h:HD) (hr:HR K m h H) (r:DVs K m H ds vs) (p:Post K (rD K) m H E Q (F ds h)):E4 K F vs H Q E
theorem FE {P:Program} {w:World} {K:PySem.W.Frag} {X:Cx}:EU (As P w K) X E0:=fun _ _ _ _ _ _ _ z2_=>by obtain ⟨_,_,_,_,_,_,_,_,_,_,_,_,q⟩:=z2_;exact (q.elim)
theorem Lo {K:PySem.W.Frag} {n:Nat} {F:List D→HD→Out D} (ar:Ar n F) {vs:List V} {H:Hp} {Q:VK} {E':XK} (h:E4 K F vs H Q E'):vs.length=n:=by
 obtain ⟨m,ds,hd,hr,r,p⟩:=h
 rw [←r.len]
 by_cases e:ds.length=n
 ·exact e
 ·rw [ar ds hd e] at p;exact p.elim
structure CaE (P:Program) (w:World) (K:PySem.W.Frag) (mg:Str→Option Value) (base:Heap) (x:Str) (k:Nat) (F:List D→HD→Out D):Prop where
 ex:∃(f:Addr) (fd:FuncData) (ps:List Str),FnOk P w K mg base (As P w K) k f fd ps (E4 K F)∧Binds K fd ps []∧mg x=some (.ref f)∧PySem.W.keepIn K (.ref f)=true
theorem AA {k k':Nat} {F:List D→HD→Out D} {fa:MA} {x:Str} {p pos:Pos} {e:Expr} {es:List Expr} (C:CaE X.prog X.w X.K X.mg X.base x k F) (hr:Room k' X.A) (hx:EU (As X.prog X.w X.K) X E) (ha:CS X E (e::es) fa) (hk:k≤k':=by decide) (hg:Gl X x:=by rfl)
 (hdb:(x==("__debug__":Str))=false:=by decide) (he:starEach (e::es) X.env=(false,eval e X.env)::starEach es X.env:=by rfl) (hpl:(backTo pos (starEach es X.env)).any (·.1)=false:=by rfl):
 Ev X E (.Call (.Name x p) (e::es) [] pos) (Ag F fa):=by
 obtain ⟨f,fd,ps,G,hb,hm,hkp⟩:=C.ex
 exact BW (VD (E:=E) G (hr.mono hk) hg hm hkp hb .nil hx ha hdb he hpl) fun σ H Q z3_=>by obtain ⟨m,ρ,hd,hr,er,p⟩:=z3_;exact (⟨m,ρ,hd,hr,er,Post.bind p fun xs h1 vs m1 H1 e1 p1 k1 hr1 r1 q1=>by
  rw [Gr]
  exact ⟨m1,xs,h1,hr1,r1,q1⟩⟩)
theorem Be {P:Program} {w:World} {K:PySem.W.Frag} {mg:Str→Option Value} {base:Heap} {x qual:Str} {st:Stmt} {f:Addr} {fd:FuncData} {N ps:List Str} {k:Nat} {F:List D→HD→Out D} {g:MS} (Fn:Fun K x qual st f fd) (S:AY N ps (defScope st)) (ar:Ar ps.length F)
 (hg:∀ds h,ds.length=ps.length→F ds h=Am N.length g ds h)
 (hbody:∀(cdv:Value) (A:Around) (outer:List Env) (s:Shared) (H:Hp) (E:XK),Room k (A.deeper (envOfC qual (defScope st) s.heap.objs.size f cdv))→AU (AI (As P w K) P w K mg base N qual (defScope st) f cdv A outer s H E) E (defBody st) g):FnOk P w K mg base (As P w K) (k+1) f fd ps (E4 K F):=by
 obtain ⟨oc,od,kV,doc,pm,an,cdv,ct,osl,rfl,lk,hcd⟩:=Fn.ex
 refine PF lk hcd S (fun vs H Q E h=>Lo ar h) fun A outer s H vs Q E hr h=>?_
 refine ⟨_,hbody cdv A outer s H E hr,?_⟩
 have hl:=Lo ar h
 obtain ⟨m,ds,hd,hr1,r,p⟩:=h
 have hld:ds.length=ps.length:=by rw [r.len];exact hl
 refine ⟨m,ds.map some++List.replicate (N.length - ds.length) none,hd,hr1,ER.start r,?_⟩
 rw [hg ds hd hld] at p
 unfold Am at p
 cases o:g (ds.map some++List.replicate (N.length - ds.length) none) hd with
 |stuck=>rw [o] at p;exact p
 |err C fs h1=>rw [o] at p;exact p
 |ok a h1=>
  rw [o] at p
  obtain ⟨fl,ρ1⟩:=a
  intro m1 H1 p1 k1 hr1
  cases fl with
  |nx=>exact fun σ er=>p .non m1 H1 p1 k1 hr1 (by simp [rD,DV])
  |bk=>exact False.elim p
  |ct=>exact False.elim p
  |rt d=>exact fun v rv=>p v m1 H1 p1 k1 hr1 rv
end
theorem DK {P:Program} {w:World} {K:PySem.W.Frag} {mg:Str→Option Value} {base:Heap} {N:List Str} {qual:Str} {scope:Scope} {f:Addr} {cd:Value} {A:Around} {outer:List Env} {s:Shared} {H:Hp} {E:XK}:
 PassesOwn (model P w) (AI (As P w K) P w K mg base N qual scope f cd A outer s H E).A (AI (As P w K) P w K mg base N qual scope f cd A outer s H E).env (AI (As P w K) P w K mg base N qual scope f cd A outer s H E).xe:=by
 passes_own
section
variable {X:Cx} {E:XK}
abbrev MO:=Aj→HD→Out (Option Int)
abbrev Lp (X:Cx) (E:XK) (e:Option Expr) (f:MO):Prop:=PO X e (tM X.K (fun _ _ a b=>a=b) E f)
def FG:MO:=fun _ h=>.ok none h
def E5 (f:ME):MO:=fun ρ h=>(f ρ h).bind fun x h1=>match x with
 |.int i=>.ok (some i) h1
 |_=>.stuck
theorem Q5 {e:Option Expr} {t t':TO} (h:PO X e t) (i:∀σ H Q,t' σ H Q→t σ H Q):PO X e t':=fun pins s σ H Q I q=>h pins s σ H Q I (i σ H Q q)
theorem JM:Lp X E none FG:=Q5 VM fun σ H Q z1_=>by obtain ⟨m,ρ,h,hr,er,p⟩:=z1_;exact (p none m H (AQ _) (.refl _) hr rfl)
theorem JN {e:Expr} {f:ME} (he:Ev X E e f):Lp X E (some e) (E5 f):=Q5 (VN he) fun σ H Q z2_=>by obtain ⟨m,ρ,h,hr,er,p⟩:=z2_;exact (⟨m,ρ,h,hr,er,Post.bind p fun x h1 v m1 H1 eo p1 k1 hr1 r1 q1=>by
 clear eo
 split at q1
 ·rename_i i
  simp only [rD,DV] at r1
  exact ⟨i,r1,q1 (some i) m1 H1 (AQ _) (.refl _) hr1 rfl⟩
 ·exact q1.elim⟩)
def Gg (xs:List D) (lo hi:Option Int):List D:=(xs.drop (HT.sIx xs.length 0 lo)).take (HT.sIx xs.length xs.length hi - HT.sIx xs.length 0 lo)
def Q6 (x:D) (lo hi:Option Int) (h:HD):Out D:=match x with
 |.tup xs=>if HT.sIx xs.length 0 lo=0∧HT.sIx xs.length xs.length hi=xs.length then .stuck else .ok (.tup (Gg xs lo hi)) h
 |_=>.stuck
def Q7 (f:ME) (lo hi:MO):ME:=fun ρ h=>(f ρ h).bind fun x h1=>(lo ρ h1).bind fun l h2=>(hi ρ h2).bind fun u h3=>Q6 x l u h3
theorem DVs.cut {K:PySem.W.Frag} {m:List Addr} {H:Hp} {ds:List D} {vs:List V} (r:DVs K m H ds vs) (lo hi:Option Int):DVs K m H (Gg ds lo hi) (HN vs lo hi):=by
 unfold Gg HN
 rw [r.len]
 exact (r.drop _).take _
def Q8 (o i x y:D) (ρ:Aj) (h:HD):Out (Fl×Aj):=match x,y with
 |.int a,.int b=>Ij o i (.int (a+b)) h (.ok (.nx,ρ) h)
 |_,_=>.stuck
def Q9 (o i:D) (h:HD):Out D:=match o,i with
 |.loc l,.int n=>if 0≤n then (match h[l]? with
  |some (.lst ds)=>(match ds[n.toNat]? with
   |some d=>.ok d h
   |none=>.stuck)
  |_=>.stuck) else .stuck
 |_,_=>.stuck
def Ra (fo fi fv:ME):MS:=fun ρ h=>(fo ρ h).bind fun o h1=>(fi ρ h1).bind fun i h2=>(Q9 o i h2).bind fun x h3=>(fv ρ h3).bind fun y h4=>Q8 o i x y ρ h4
end
theorem vals_ints:∀{ns:List Int} {its:List Value},Vals (ns.map V.int) its→∃ys:List (Int×Tok),its=ys.map (fun p=>Value.int p.1 p.2)∧ys.map (·.1)=ns
 |[],its,r=>by cases r;exact ⟨[],rfl,rfl⟩
 |n::ns,its,r=>by
  cases r with
  |cons r1 r2=>
   obtain ⟨t,rfl⟩:=r1
   obtain ⟨ys,rfl,e⟩:=vals_ints r2
   exact ⟨(n,t)::ys,rfl,by simp [e]⟩
section
variable {X:Cx}
theorem Xo (hc:X.calm=true):CQ X (.builtin "min") (fun xs H Q=>∃(p:Addr) (ns:List Int),xs=[.ref p]∧SqL X.K H p (ns.map V.int)∧ns≠[]∧∀M,M∈ns→(∀a∈ns,M≤a)→Q (.int M) H):=by
 intro pins s σ H xs us Q I r h
 obtain ⟨p,ns,rfl,hs,hne,q⟩:=h
 obtain ⟨u,rfl,rx⟩:=DY r
 cases rx
 obtain ⟨its,rv,pl,hz⟩:=I.list hs
 obtain ⟨ys,rfl,en⟩:=vals_ints rv
 have hlen:ys.length=ns.length:=by rw [←en];simp
 have hpos:0<ys.length:=by rw [hlen];exact List.length_pos_iff.mpr hne
 have hl:s.heap.IsList p (intItems ys.toArray):=by
  have:=pl.isList
  simpa [intItems] using this
 refine min_intList (I.ok.hd hc) hl (by simpa using hpos) fun v h' tk hv hk=>?_
 obtain ⟨t,rfl⟩:=intItems_at hv
 obtain ⟨h1,h2⟩:=argBest_lt (numAt ys.toArray) (ys.toArray.size - 1)
 have hsz:ys.toArray.size=ys.length:=by simp
 have at':∀j,j<ys.length→numAt ys.toArray j∈ns:=fun j hj=>by
  rw [numAt_eq]
  simp only [EL]
  rw [←en,Bb (by simpa using hj)]
  simp only [Option.getD_some]
  exact Gq _
 refine ⟨.int (numAt ys.toArray (argBest _ (ys.toArray.size - 1))),H,I.kept hk,⟨t,rfl⟩,q _ (at' _ (by omega)) fun a ha=>?_⟩
 rw [←en] at ha
 obtain ⟨j,hj,rfl⟩:=Kj ha
 have hj':j<ys.length:=by simpa using hj
 have:=h2 j (by omega)
 rw [numAt_eq ys.toArray j] at this
 simpa [EL,Bb hj'] using this
def FH:List Int→Int
 |[]=>0
 |n::ns=>ns.foldl min n
theorem NO:∀(ns:List Int) (n:Int),(ns.foldl min n∈n::ns)∧∀a∈n::ns,ns.foldl min n≤a
 |[],n=>by simp
 |m::ns,n=>by
  obtain ⟨h1,h2⟩:=NO ns (min n m)
  rw [List.foldl_cons]
  refine ⟨?_,fun a ha=>?_⟩
  ·rcases qa4.mp h1 with z |z
   ·rw [z]
    rcases Int.le_total n m with q |q
    ·rw [Int.min_eq_left q];simp
    ·rw [Int.min_eq_right q];simp
   ·exact Bf _ (Bf _ z)
  ·have h0:=h2 (min n m) A8
   rcases qa4.mp ha with z |z
   ·subst z;omega
   ·rcases qa4.mp z with z |z
    ·subst z;omega
    ·exact h2 a (Bf _ z)
theorem NP {ns:List Int} (h:ns≠[]):FH ns∈ns:=by
 cases ns with
 |nil=>exact absurd rfl h
 |cons n ns=>exact (NO ns n).1
theorem NQ {ns:List Int} {a:Int} (h:a∈ns):FH ns≤a:=by
 cases ns with
 |nil=>cases h
 |cons n ns=>exact (NO ns n).2 a h
def FI (f:List Int→Int):D→HD→Out D:=fun x h=>match x with
 |.loc l=>match h[l]? with
  |some (.lst ds)=>match AV (ds.map FC) with
   |some ns=>if ns=[] then .stuck else .ok (.int (f ns)) h
   |none=>.stuck
  |_=>.stuck
 |_=>.stuck
theorem Rb (hc:X.calm=true):Do X (.builtin "min") (An (FI FH)):=by
 refine ⟨_,Xo hc,fun m H h E ds vs Q hr r q=>F6 r q fun d v ev rv q=>?_⟩
 unfold FI at q
 split at q
 ·rename_i l
  split at q
  ·rename_i ds el
   split at q
   ·rename_i ns en
    split at q
    ·exact q.elim
    ·rename_i hne
     simp only [DV] at rv
     obtain ⟨a,rfl,ha⟩:=rv
     obtain ⟨ws,hv,dv⟩:=hr.cells l _ a el ha
     have ew:=Nu dv en
     subst ew
     refine ⟨a,ns,ev,SqL.of hv,hne,fun M h1 h2=>?_⟩
     have:M=FH ns:=Int.le_antisymm (h2 _ (NP hne)) (NQ h1)
     subst this
     exact Bo hr q (by simp [DV])
   ·exact q.elim
  ·exact q.elim
 ·exact q.elim
end
def Rc (K:PySem.W.Frag) (t:Addr):It:=⟨fun i H=>∃xs,SqL K H t xs∧i<xs.length,fun i H x H'=>∃p v,H p=none∧x=.ref p∧(∀xs:List V,SqL K H t xs→xs[i]?=some v)∧H'=Ao H p (.tup [.int i,v]),fun i H=>∃xs,SqL K H t xs∧i=xs.length⟩
theorem Xp {P:Program} {w:World} {K:PySem.W.Frag} {elts:List Expr} {kt:Nat} {tpos:Pos} (e it t:Addr) (hei:e≠it) (hte:t≠e) (hti:t≠it):
 GA P w K (.Tuple elts kt tpos) (Rc K t) [e,it] e (fun i h=>(∃old,IsEnum h e it i old)∧h.IsListIter it t i) where
 mem:=by simp
 obj:=fun i h st b hb=>by
  obtain ⟨⟨old,h1⟩,o,h2,hc,hd⟩:=st
  rcases qa4.mp hb with z |z
  ·subst z;exact ⟨_,h1,fun v z=>by cases z⟩
  ·rw [qaH] at z
   subst z
   exact ⟨o,h2,fun v z=>by rw [hd] at z;cases z⟩
 keep:=fun i h h' st k=>by
  obtain ⟨⟨old,h1⟩,h2⟩:=st
  exact ⟨⟨old,k e (by simp) _ h1⟩,h2.at fun o z=>k it (by simp) o z⟩
 item:=by
  intro X hP hw hK hc i pins s σ H E I hf st hg
  subst hP hw hK
  obtain ⟨⟨old,he⟩,hit⟩:=st
  obtain ⟨xs,hq,hi⟩:=hg
  obtain ⟨its,rv,p,hz⟩:=I.list hq
  have hT:s.heap.IsList t its.toArray:=p.isList
  have hl:=rv.length
  obtain ⟨e0,e1,e2,e3,e4,e5⟩:=hf e (by simp)
  obtain ⟨i0,i1,i2,i3,i4,i5⟩:=hf it (by simp)
  have hx:xs[i]?=some xs[i]:=Bb hi
  refine wpAny_pyNext_enum_itemD (Draws.list (A:=X.A.in1) (I.ok.hd hc) it t hti its.toArray) he ⟨hit,hT⟩ (by rw [A9];omega) hei (by simp [hei,Ne.symm hte]) fun x h1 tk hPx ho hs1 hTup hsz hk=>?_
  obtain ⟨u,hu,ru⟩:=rv.get hx
  have hux:u=x:=by
   have:its[i]?=some x:=by simpa using hPx
   rw [hu] at this
   exact Option.some.inj this
  subst hux
  refine ⟨.ref s.heap.objs.size,rfl,wpAny_letOwnedTupleGo_enum ho fun h2 he2 sb=>?_⟩
  have hfr:H s.heap.objs.size=none:=I.hok.fresh (AF _)
  have kk:∀b o,b∉[e,it]→s.heap.get? b=some o→h2.get? b=some o:=fun b o hb z=>by
   have n1:b≠e:=fun q=>hb (by simp [q])
   have n2:b≠it:=fun q=>hb (by simp [q])
   exact (sb.2 b n1).trans (hk b o n1 n2 z)
  have na:s.heap.objs.size≠e:=Gb (AE he)
  have hnew:h2.get? s.heap.objs.size=some {cls:=.type "tuple",data:=.seq #[.int i tk,u]}:=(sb.2 _ na).trans hTup
  have ntr:∀b w,H b=some w→b∉[e,it]:=fun b w z hb=>by
   rcases qa4.mp hb with q |q
   ·rw [q,e0] at z;cases z
   ·rw [qaH.mp q,i0] at z;cases z
  have nal:∀b o,s.heap.get? b=some o→b≠s.heap.objs.size:=fun b o z=>BM (AE z)
  have it2:h2.IsListIter it t (i+1):=by
   obtain ⟨o,q,r⟩:=hs1.1
   exact ⟨o,(sb.2 it (Ne.symm hei)).trans q,r⟩
  refine ⟨.ref s.heap.objs.size,Ao H s.heap.objs.size (.tup [.int i,xs[i]]),?_,rfl,⟨s.heap.objs.size,xs[i],hfr,rfl,fun ys hy=>by rw [I.list_inj hy hq];exact hx,rfl⟩,⟨⟨u,he2⟩,it2⟩,fun b hb=>?_⟩
  ·show Inv X pins σ _ {s with heap:=h2,gens:=s.gens,drawn:=s.drawn,toks:=tk+1}
   refine I.step (g':=s.gens) (d':=s.drawn) (t':=tk+1) (h':=h2) (ch:=[e,it]) (fun b hb=>?_) (fun b o _ _ hc z _=>kk b o hc z) (fun b o _ _ hc z _=>⟨o.slots,kk b o hc z⟩) (fun b o _ z n=>by rw [Au (nal b o z)];exact n)
    (fun b o hc z=>⟨o,kk b o hc z⟩) (fun b ys z=>by rw [Au (BE z hfr)];exact z) (fun b o u z=>by rw [Au (BE z hfr)];exact z) (fun b ps z=>⟨#[],by rw [Au (BE z hfr),z];simp⟩) (fun m hm=>?_) (fun b w z=>?_) I.bare
   ·rcases qa4.mp hb with q |q
    ·subst q;exact ⟨e3,e1,e4,e5⟩
    ·rw [qaH] at q;subst q;exact ⟨i3,i1,i4,i5⟩
   ·obtain ⟨o,es,ep,q,r⟩:=hm
    exact ⟨o,es,ep,kk _ o (by simp [Ne.symm e1,Ne.symm i1]) q,r⟩
   ·by_cases hb:b=s.heap.objs.size
    ·subst hb
     rw [B3] at z
     cases z
     exact ⟨by simp only [HJ,Gs];rw [sizeLine_eq];decide,[.int i tk,u],.cons ⟨tk,rfl⟩ (.cons ru .nil),⟨_,hnew,rfl,0,rfl⟩,fun o e=>by rw [hnew] at e;cases e;rfl⟩
    ·rw [Au hb] at z
     refine (I.hok b w z).stay (fun c v hc q=>kk c v ?_ q) (fun c q=>by rw [Au (BE q hfr)];exact q) fun c ys q=>by rw [Au (BE q hfr)];exact q
     rcases hc with rfl |hc
     ·exact ntr c _ z
     ·exact ntr c _ hc
  ·have nb:b≠s.heap.objs.size:=by
    rcases qa4.mp hb with q |q
    ·rw [q];exact na.symm
    ·rw [qaH.mp q]
     obtain ⟨o,z,_⟩:=hit
     exact nal _ _ z
   rw [Au nb]
   exact (hf b hb).1
 done:=by
  intro X hP hw hK hc i pins s σ H E I hf st hg
  subst hP hw hK
  obtain ⟨⟨old,he⟩,hit⟩:=st
  obtain ⟨xs,hq,hi⟩:=hg
  obtain ⟨its,rv,p,hz⟩:=I.list hq
  have hT:s.heap.IsList t its.toArray:=p.isList
  have hl:=rv.length
  obtain ⟨i0,i1,i2,i3,i4,i5⟩:=hf it (by simp)
  have hin:i=its.toArray.size:=by rw [A9];omega
  refine wpAny_pyNext_enum_endD (Draws.list (A:=X.A.in1) (I.ok.hd hc) it t hti its.toArray) he (hin ▸ ⟨hit,hT⟩) fun h' eb=>⟨rfl,I.turned (t':=s.toks) (fun b o hb z=>eb b o hb z) i0 i1 i3 i4 i5⟩
 self:=fun A i s Q E st h=>by
  obtain ⟨⟨old,he⟩,_⟩:=st
  exact wpAny_pyIter_enum he h
section
variable {X:Cx} {E:XK}
theorem Xq {elts:List Expr} {kt:Nat} {tpos p pos:Pos} {a:Expr} {ta:TA} (hg:Gl X "enumerate") (hm:X.mg "enumerate"=none) (ha:PA X [a] ta) (hs:starEach [a] X.env=[(false,eval a X.env)]:=by rfl):
 PI X (.Tuple elts kt tpos) (.Call (.Name "enumerate" p) [a] [] pos) (fun σ H R=>ta σ H fun vs H1=>(∃t xs,vs=[.ref t]∧SqT X.K H1 t xs∧R (Qy X.K t xs) H1)∨∃t xs,vs=[.ref t]∧SqL X.K H1 t xs∧R (Rc X.K t) H1):=by
 intro pins s σ H R I h
 refine Call_ (Gx I hg hm boot_enumerate (PyProof.Rows.callWith_type1 (Ax (ha pos pins s σ H _ I h) fun us s1 z1_=>?_) hs rfl))
 obtain ⟨vs,H1,I1,r1,q1⟩:=z1_
 rcases q1 with ⟨t,xs,e,hq,q⟩ |⟨t,xs,e,hq,q⟩
 ·subst e
  cases r1 with
  |cons r rr=>
   cases rr
   cases r
   obtain ⟨its,rv,p,hz⟩:=I1.tuple hq
   have hT:s1.heap.IsTuple t its.toArray:=p
   have hlt:t<s1.heap.objs.size:=p.lt
   refine WV hT fun h' he hit hsz hk=>wpAny_pyIter_enum (s:={s1 with heap:=h'}) he ?_
   have I2:Inv X pins σ H1 {s1 with heap:=h'}:=I1.kept (t':=s1.toks) hk
   refine ⟨s1.heap.objs.size+1,[s1.heap.objs.size+1,s1.heap.objs.size],_,_,H1,rfl,I2,WW (s1.heap.objs.size+1) s1.heap.objs.size t (Nat.succ_ne_self _) (BM (Fq hlt)) (BM hlt) xs,⟨⟨.none,he⟩,hit⟩,fun b hb=>?_,q⟩
   rcases qa4.mp hb with z |z
   ·subst z;exact I1.fpOk (Gv _) (I1.hok.fresh (Gv _))
   ·rw [qaH] at z;subst z;exact I1.fpOk (AF _) (I1.hok.fresh (AF _))
 ·subst e
  cases r1 with
  |cons r rr=>
   cases rr
   cases r
   obtain ⟨its,rv,p,hz⟩:=I1.list hq
   have hT:s1.heap.IsList t its.toArray:=p.isList
   have hlt:t<s1.heap.objs.size:=by obtain ⟨_,z,_⟩:=hT;exact AE z
   refine call_enumerate_list hT fun h' he hit hsz hk=>wpAny_pyIter_enum (s:={s1 with heap:=h'}) he ?_
   have I2:Inv X pins σ H1 {s1 with heap:=h'}:=I1.kept (t':=s1.toks) hk
   refine ⟨s1.heap.objs.size+1,[s1.heap.objs.size+1,s1.heap.objs.size],_,_,H1,rfl,I2,Xp (s1.heap.objs.size+1) s1.heap.objs.size t (Nat.succ_ne_self _) (BM (Fq hlt)) (BM hlt),⟨⟨.none,he⟩,hit⟩,fun b hb=>?_,q⟩
   rcases qa4.mp hb with z |z
   ·subst z;exact I1.fpOk (Gv _) (I1.hok.fresh (Gv _))
   ·rw [qaH] at z;subst z;exact I1.fpOk (AF _) (I1.hok.fresh (AF _))
def JO:List D→HD→Out (List D×Bi):=fun ds h=>match ds with
 |[.tup xs]=>.ok (Ep xs,[]) h
 |[.loc l]=>match h[l]? with
  |some (.lst xs)=>.ok (Ep xs,[(l,xs)]) h
  |_=>.stuck
 |_=>.stuck
def E6 (fa:MA):MI:=fun ρ h=>(fa ρ h).bind JO
theorem Iw {elts:List Expr} {kt:Nat} {tpos p pos:Pos} {a:Expr} {fa:MA} (hg:Gl X "enumerate") (hm:X.mg "enumerate"=none) (ha:CS X E [a] fa) (hs:starEach [a] X.env=[(false,eval a X.env)]:=by rfl):
 F9 X E (.Tuple elts kt tpos) (.Call (.Name "enumerate" p) [a] [] pos) (E6 fa):=
 Jy (Xq hg hm ha hs) fun σ H R ⟨m,ρ,h,hr,er,p⟩=>⟨m,ρ,h,hr,er,Post.bind p fun x h1 v m1 H1 eo p1 k1 hr1 r1 q1=>by
  clear eo
  unfold JO at q1
  split at q1
  ·rename_i xs
   simp only [EV,DVs,DV] at r1
   obtain ⟨v,w,rfl,⟨a,vs,rfl,ha,dv⟩,rfl⟩:=r1
   refine .inl ⟨a,vs,rfl,SqT.of ha,q1 _ m1 H1 (AQ _) (.refl _) hr1 fun i m2 h2 H2 p2 k2 hr2 _=>⟨fun hi=>?_,fun hi=>?_⟩⟩
   ·have hi':i<xs.length:=by simpa [Ep] using hi
    refine ⟨⟨by rw [←dv.len];exact hi',SqT.of (k2 _ _ ha rfl)⟩,fun y H3 ⟨pp,vv,hp,ey,ev,eH⟩=>?_⟩
    subst ey eH
    have hd:xs[i]?=some xs[i]:=Bb hi'
    obtain ⟨v2,e2,r2⟩:=dv.get hd
    rw [ev] at e2
    cases e2
    refine ⟨.new hp,hr2.new hp,.tup [.int i,xs[i]],?_,?_⟩
    ·simp [Ep,hd]
    ·simp only [DV]
     exact ⟨pp,_,rfl,B3,.cons (by simp [DV]) (.cons (DV.keep p2 (k2.trans (.new hp)) r2) .nil)⟩
   ·exact ⟨by rw [←dv.len];simpa [Ep] using hi,SqT.of (k2 _ _ ha rfl)⟩
  ·rename_i l
   split at q1
   ·rename_i xs el
    simp only [EV,DVs,DV] at r1
    obtain ⟨v,w,rfl,⟨a,rfl,ha⟩,rfl⟩:=r1
    obtain ⟨vs,hv,dv⟩:=hr1.cells l _ a el ha
    refine .inr ⟨a,vs,rfl,SqL.of hv,q1 _ m1 H1 (AQ _) (.refl _) hr1 fun i m2 h2 H2 p2 k2 hr2 hsr=>?_⟩
    obtain ⟨ws,hw,dw⟩:=hr2.cells l _ a (hsr _ A8) (Jj p2 ha)
    refine ⟨fun hi=>?_,fun hi=>⟨ws,SqL.of hw,by rw [←dw.len];simpa [Ep] using hi⟩⟩
    have hi':i<xs.length:=by simpa [Ep] using hi
    refine ⟨⟨ws,SqL.of hw,by rw [←dw.len];exact hi'⟩,fun y H3 ⟨pp,vv,hp,ey,ev,eH⟩=>?_⟩
    subst ey eH
    have hd:xs[i]?=some xs[i]:=Bb hi'
    obtain ⟨v2,e2,r2⟩:=dw.get hd
    rw [ev ws (SqL.of hw)] at e2
    cases e2
    refine ⟨.new hp,hr2.new hp,.tup [.int i,xs[i]],?_,?_⟩
    ·simp [Ep,hd]
    ·simp only [DV]
     exact ⟨pp,_,rfl,B3,.cons (by simp [DV]) (.cons (DV.keep (AQ _) (.new hp) r2) .nil)⟩
   ·exact q1.elim
  ·exact q1.elim⟩
end
structure Iz (z TI TO p q:Addr) (f g:List Addr):Prop where
 a1:TI≠z
 a2:TO≠z
 a3:p≠z
 a4:q≠z
 a5:TI≠TO
 a6:TI≠p
 a7:TI≠q
 a8:TO≠p
 a9:TO≠q
 b1:p≠q
 b2:z∉f
 b3:z∉g
 b4:TO∉f
 b5:TO∉g
 b6:p∉g
 b7:q∉f
section
variable {prog:Program} {w:World} {A:Around} {E:Value→Shared→Prop} {s:Shared} {z TI TO p q:Addr} {f g:List Addr} {n1 n2 k:Nat} {P1 P2:Nat→Value→Prop} {S1 S2:Nat→Heap→Prop} {a b:Value}
theorem Xr {Q:Value→Shared→Prop} (D1:Draws prog w A p f n1 P1 S1) (D2:Draws prog w A q g n2 P2 S2) (ap:Iz z TI TO p q f g)
 (zz:IsZip s.heap z TI TO .none) (zi:IsPair s.heap TI (.ref p) (.ref q)) (zo:IsPair s.heap TO a b) (s1:S1 k s.heap) (s2:S2 k s.heap) (l1:k<n1) (l2:k<n2)
 (hQ:∀h' tk x y,P1 k x→P2 k y→IsZip h' z TI TO (rawInt s.heap.objs.size)→IsPair h' TO x y→S1 (k+1) h'→S2 (k+1) h'→IsPair h' s.heap.objs.size x y→
  (∀c o,c≠z→c≠TO→c≠p→c≠q→s.heap.get? c=some o→h'.get? c=some o)→Q (.ref s.heap.objs.size) {s with heap:=h',toks:=tk}):
 wpAny (model prog w) A (Builtin.«zip.__next__» ⟨[.ref z],[]⟩) (fun A1 s'=>∃v,A1=.done (.ret v)∧Q v s') E s:=by
 show wpAny _ _ (field (.ref z) 2 >>=_) _ _ _
 refine wpAny_bind (wpAny_field zz rfl (x:=.bool false) rfl ?_)
 show wpAny _ _ (field (.ref z) 3 >>=_) _ _ _
 refine wpAny_bind (wpAny_field zz rfl (x:=.ref TI) rfl ?_)
 refine wpAny_bind (wpAny_seqItems zi rfl ?_)
 show wpAny _ _ (Builtin.SmallTypes.ownedTupleIsFree (.ref z) >>=_) _ _ _
 refine wpAny_bind ?_
 unfold Builtin.SmallTypes.ownedTupleIsFree
 refine wpAny_bind (wpAny_field zz rfl (x:=.none) rfl (wpAny_pure ?_))
 simp only [if_true]
 refine wpAny_bind (wpAny_rule ?_)
 refine wpAny_bind (wpAny_field zz rfl (x:=.ref TO) rfl ?_)
 refine wpAny_bind (wpAny_setField_rec zz (by simp) fun m1 zz1 t1=>?_)
 replace zz1:IsZip m1 z TI TO .ellipsis:=zz1
 refine wpAny_bind ?_
 simp only [List.zipIdx_cons,List.zipIdx_nil,List.forIn_cons,List.forIn_nil]
 refine wpAny_bind (wpAny_bind (wpAny_onRaise ?_))
 show wpAny _ _ (Builtin.SmallTypes.nextOf (.ref p) >>=_) _ _ _
 refine wpAny_bind (D1.item k _ _ _ l1 (D1.frame k _ _ s1 fun c hc o e=>t1.extBut _ _ (fun y=>ap.b2 (y ▸ hc)) e) fun x m2 tk2 px s12 t2=>wpAny_pure ?_)
 have zo2:IsPair m2 TO a b:=t2.extBut _ _ ap.a8 (t1.extBut _ _ ap.a2 zo)
 refine wpAny_bind (wpAny_seqItems zo2 rfl ?_)
 refine wpAny_bind (wpAny_updateSeq_pair zo2 fun m3 zo3 t3=>?_)
 replace zo3:IsPair m3 TO x b:=zo3
 refine wpAny_bind (wpAny_letGo (wpAny_pure ?_))
 refine wpAny_bind (wpAny_bind (wpAny_onRaise ?_))
 show wpAny _ _ (Builtin.SmallTypes.nextOf (.ref q) >>=_) _ _ _
 have s23:S2 k m3:=D2.frame k _ _ s2 fun c hc o e=>t3.extBut _ _ (fun y=>ap.b5 (y ▸ hc)) (t2.extBut _ _ (fun y=>ap.b6 (y ▸ hc)) (t1.extBut _ _ (fun y=>ap.b3 (y ▸ hc)) e))
 refine wpAny_bind (D2.item k _ _ _ l2 s23 fun y m4 tk4 py s24 t4=>wpAny_pure ?_)
 have zo4:IsPair m4 TO x b:=t4.extBut _ _ ap.a9 zo3
 refine wpAny_bind (wpAny_seqItems zo4 rfl ?_)
 refine wpAny_bind (wpAny_updateSeq_pair zo4 fun m5 zo5 t5=>?_)
 replace zo5:IsPair m5 TO x y:=zo5
 refine wpAny_bind (wpAny_letGo (wpAny_pure (wpAny_pure ?_)))
 refine wpAny_bind (wpAny_seqItems zo5 rfl ?_)
 refine wpAny_bind (wpAny_newTuple ?_)
 have sz:m5.objs.size=s.heap.objs.size:=by rw [t5.1,t4.1,t3.1,t2.1,t1.1]
 have zz5:IsZip m5 z TI TO .ellipsis:=t5.extBut _ _ ap.a2.symm (t4.extBut _ _ ap.a4.symm (t3.extBut _ _ ap.a2.symm (t2.extBut _ _ ap.a3.symm zz1)))
 have kp:∀c o,c≠z→c≠TO→c≠p→c≠q→s.heap.get? c=some o→m5.get? c=some o:=fun c o c1 c2 c3 c4 e=>t5.extBut _ _ c2 (t4.extBut _ _ c4 (t3.extBut _ _ c2 (t2.extBut _ _ c3 (t1.extBut _ _ c1 e))))
 have zlt:z<m5.objs.size:=AE zz5
 show wpAny _ _ (Builtin.SmallTypes.ownedTupleHandOut (.ref z) (.ref m5.objs.size) >>=_) _ _ _
 refine wpAny_bind ?_
 unfold Builtin.SmallTypes.ownedTupleHandOut
 have zz6:IsZip (m5.push {cls:=.type "tuple",data:=.seq #[x,y]}) z TI TO .ellipsis:=AB _ zz5
 refine wpAny_bind (wpAny_setField_rec zz6 (by simp) fun m7 zz7 t7=>?_)
 replace zz7:IsZip m7 z TI TO (rawInt m5.objs.size):=zz7
 refine wpAny_setField_rec zz7 (by simp) fun m8 zz8 t8=>?_
 replace zz8:IsZip m8 z TI TO (rawInt m5.objs.size):=zz8
 have up:∀c o,c≠z→m5.get? c=some o→m8.get? c=some o:=fun c o c1 e=>t8.extBut _ _ c1 (t7.extBut _ _ c1 (AB _ e))
 have nw:IsPair m8 m5.objs.size x y:=t8.extBut _ _ (BP zlt) (t7.extBut _ _ (BP zlt) (A7 _ rfl))
 rw [sz] at zz8 nw
 refine wpAny_pure ⟨_,rfl,?_⟩
 show Q (.ref m5.objs.size) _
 rw [sz]
 refine hQ m8 tk4 x y px py zz8 (up _ _ ap.a2 zo5) (D1.frame _ m2 m8 s12 fun c hc o e=>?_) (D2.frame _ m4 m8 s24 fun c hc o e=>?_) nw fun c o c1 c2 c3 c4 e=>up c o c1 (kp c o c1 c2 c3 c4 e)
 ·have n1:c≠TO:=fun y=>ap.b4 (y ▸ hc)
  exact up c o (fun y=>ap.b2 (y ▸ hc)) (t5.extBut _ _ n1 (t4.extBut _ _ (fun y=>ap.b7 (y ▸ hc)) (t3.extBut _ _ n1 e)))
 ·exact up c o (fun y=>ap.b3 (y ▸ hc)) (t5.extBut _ _ (fun y=>ap.b5 (y ▸ hc)) e)
theorem Xs {Q:Fin→Shared→Prop} (D1:Draws prog w A p f n1 P1 S1) (D2:Draws prog w A q g n2 P2 S2) (ap:Iz z TI TO p q f g)
 (zz:IsZip s.heap z TI TO .none) (zi:IsPair s.heap TI (.ref p) (.ref q)) (zo:IsPair s.heap TO a b) (s1:S1 k s.heap) (s2:S2 k s.heap) (hk:k=n1∨(k<n1∧k=n2))
 (hE:∀h' tk e,(∀c o,c≠z→c≠TO→c≠p→c≠q→s.heap.get? c=some o→h'.get? c=some o)→(∃o,h'.get? e=some o∧o.cls=.type "StopIteration")→E (.ref e) {s with heap:=h',toks:=tk}):
 wpAny (model prog w) A (Builtin.«zip.__next__» ⟨[.ref z],[]⟩) Q E s:=by
 show wpAny _ _ (field (.ref z) 2 >>=_) _ _ _
 refine wpAny_bind (wpAny_field zz rfl (x:=.bool false) rfl ?_)
 show wpAny _ _ (field (.ref z) 3 >>=_) _ _ _
 refine wpAny_bind (wpAny_field zz rfl (x:=.ref TI) rfl ?_)
 refine wpAny_bind (wpAny_seqItems zi rfl ?_)
 show wpAny _ _ (Builtin.SmallTypes.ownedTupleIsFree (.ref z) >>=_) _ _ _
 refine wpAny_bind ?_
 unfold Builtin.SmallTypes.ownedTupleIsFree
 refine wpAny_bind (wpAny_field zz rfl (x:=.none) rfl (wpAny_pure ?_))
 simp only [if_true]
 refine wpAny_bind (wpAny_rule ?_)
 refine wpAny_bind (wpAny_field zz rfl (x:=.ref TO) rfl ?_)
 refine wpAny_bind (wpAny_setField_rec zz (by simp) fun m1 zz1 t1=>?_)
 replace zz1:IsZip m1 z TI TO .ellipsis:=zz1
 refine wpAny_bind ?_
 simp only [List.zipIdx_cons,List.zipIdx_nil,List.forIn_cons,List.forIn_nil]
 refine wpAny_bind (wpAny_bind (wpAny_onRaise ?_))
 show wpAny _ _ (Builtin.SmallTypes.nextOf (.ref p) >>=_) _ _ _
 have s11:=D1.frame k _ m1 s1 fun c hc o e=>t1.extBut _ _ (fun y=>ap.b2 (y ▸ hc)) e
 rcases hk with hk |⟨hk,hk2⟩
 ·subst hk
  refine wpAny_bind (D1.done _ _ _ s11 fun m2 e t2 he=>?_)
  obtain ⟨oe,e1,e2⟩:=he
  have zz2:IsZip m2 z TI TO .ellipsis:=t2 _ _ ap.a3.symm zz1
  have ne:e≠z:=fun y=>by subst y;rw [zz2] at e1;cases e1;simp at e2
  exact wpAny_setField_rec zz2 (by simp) fun m3 _ t3=>hE m3 _ e (fun c o c1 _ c3 _ y=>t3.extBut _ _ c1 (t2 _ _ c3 (t1.extBut _ _ c1 y))) ⟨oe,t3.extBut _ _ ne e1,e2⟩
 ·subst hk2
  refine wpAny_bind (D1.item k _ _ _ hk s11 fun x m2 tk2 px s12 t2=>wpAny_pure ?_)
  have zo2:IsPair m2 TO a b:=t2.extBut _ _ ap.a8 (t1.extBut _ _ ap.a2 zo)
  refine wpAny_bind (wpAny_seqItems zo2 rfl ?_)
  refine wpAny_bind (wpAny_updateSeq_pair zo2 fun m3 zo3 t3=>?_)
  refine wpAny_bind (wpAny_letGo (wpAny_pure ?_))
  refine wpAny_bind (wpAny_bind (wpAny_onRaise ?_))
  show wpAny _ _ (Builtin.SmallTypes.nextOf (.ref q) >>=_) _ _ _
  have s23:S2 k m3:=D2.frame k _ _ s2 fun c hc o e=>t3.extBut _ _ (fun y=>ap.b5 (y ▸ hc)) (t2.extBut _ _ (fun y=>ap.b6 (y ▸ hc)) (t1.extBut _ _ (fun y=>ap.b3 (y ▸ hc)) e))
  refine wpAny_bind (D2.done _ _ _ s23 fun m4 e t4 he=>?_)
  obtain ⟨oe,e1,e2⟩:=he
  have zz4:IsZip m4 z TI TO .ellipsis:=t4 _ _ ap.a4.symm (t3.extBut _ _ ap.a2.symm (t2.extBut _ _ ap.a3.symm zz1))
  have ne:e≠z:=fun y=>by subst y;rw [zz4] at e1;cases e1;simp at e2
  exact wpAny_setField_rec zz4 (by simp) fun m5 _ t5=>hE m5 _ e (fun c o c1 c2 c3 c4 y=>t5.extBut _ _ c1 (t4 _ _ c4 (t3.extBut _ _ c2 (t2.extBut _ _ c3 (t1.extBut _ _ c1 y))))) ⟨oe,t5.extBut _ _ ne e1,e2⟩
theorem Xu {Q:Option Value→Shared→Prop} (D1:Draws prog w A.in1 p f n1 P1 S1) (D2:Draws prog w A.in1 q g n2 P2 S2) (ap:Iz z TI TO p q f g)
 (zz:IsZip s.heap z TI TO .none) (zi:IsPair s.heap TI (.ref p) (.ref q)) (zo:IsPair s.heap TO a b) (s1:S1 k s.heap) (s2:S2 k s.heap) (l1:k<n1) (l2:k<n2)
 (hQ:∀h' tk x y,P1 k x→P2 k y→IsZip h' z TI TO (rawInt s.heap.objs.size)→IsPair h' TO x y→S1 (k+1) h'→S2 (k+1) h'→IsPair h' s.heap.objs.size x y→
  (∀c o,c≠z→c≠TO→c≠p→c≠q→s.heap.get? c=some o→h'.get? c=some o)→Q (some (.ref s.heap.objs.size)) {s with heap:=h',toks:=tk}):
 wpAny (model prog w) A (pyNext (.ref z)) Q E s:=by
 have hT:s.TypeIs (.ref z) "zip":=⟨_,zz,rfl⟩
 unfold pyNext
 exact wpAny_bind (wpAny_attempt (wpAny_callSpecial?_slot (name:=Str.ofString "__next__") hT F.slot_zip_next (wpAny_call_entry F.slot_zip_next hT F.entry_zip_next
  (Xr D1 D2 ap zz zi zo s1 s2 l1 l2 fun h' tk x y c1 c2 c3 c4 c5 c6 c7 c8=>wpAny_pure (hQ h' tk x y c1 c2 c3 c4 c5 c6 c7 c8)) (F.args_zip_next_1 _))))
theorem Xv {Q:Option Value→Shared→Prop} (D1:Draws prog w A.in1 p f n1 P1 S1) (D2:Draws prog w A.in1 q g n2 P2 S2) (ap:Iz z TI TO p q f g)
 (zz:IsZip s.heap z TI TO .none) (zi:IsPair s.heap TI (.ref p) (.ref q)) (zo:IsPair s.heap TO a b) (s1:S1 k s.heap) (s2:S2 k s.heap) (hk:k=n1∨(k<n1∧k=n2))
 (hQ:∀h' tk,(∀c o,c≠z→c≠TO→c≠p→c≠q→s.heap.get? c=some o→h'.get? c=some o)→Q none {s with heap:=h',toks:=tk}):wpAny (model prog w) A (pyNext (.ref z)) Q E s:=by
 have hT:s.TypeIs (.ref z) "zip":=⟨_,zz,rfl⟩
 unfold pyNext
 refine wpAny_bind (wpAny_attempt (wpAny_callSpecial?_slot (name:=Str.ofString "__next__") hT F.slot_zip_next (wpAny_call_entry F.slot_zip_next hT F.entry_zip_next
  (Xs D1 D2 ap zz zi zo s1 s2 hk fun h' tk e kp he=>?_) (F.args_zip_next_1 _))))
 obtain ⟨o,ho,hc⟩:=he
 refine wpAny_bind (wpAny_isInstance (T:="StopIteration") (b:=true) ⟨o,ho,hc⟩ isSubtype_stop ?_)
 exact wpAny_pure (hQ _ _ kp)
end
open AutoSeq1 (wpAny_loadPart')
def ItAt:Bool→Heap→Addr→Addr→Nat→Prop
 |true,h,it,l,i=>h.IsTupleIter it l i
 |false,h,it,l,i=>h.IsListIter it l i
def SqA:Bool→Heap→Addr→Array Value→Prop
 |true,h,l,xs=>h.IsTuple l xs
 |false,h,l,xs=>h.IsList l xs
def D9:Bool→PySem.W.Frag→Hp→Addr→List V→Prop
 |true,K,H,a,xs=>SqT K H a xs
 |false,K,H,a,xs=>SqL K H a xs
def GN (k:Bool) (l:Addr):Obj:={cls:=.type (if k then "tuple_iterator" else "list_iterator"),data:=.fields #[.ref l,.int 0 0]}
theorem Lq {prog:Program} {w:World} {A:Around} (k:Bool) (hh:A.handled=none) (it l:Addr) (hne:l≠it) (items:Array Value):
 Draws prog w A it [it,l] items.size (fun i v=>items[i]?=some v) (fun i h=>ItAt k h it l i∧SqA k h l items):=by
 cases k
 ·exact Draws.list hh it l hne items
 ·exact Nw hh it l hne items
theorem ItAt.obj {k:Bool} {h:Heap} {it l:Addr} {i:Nat} (x:ItAt k h it l i):∃o,h.get? it=some o∧∀v,o.data≠.cell v:=by
 cases k
 ·obtain ⟨o,e,c,d⟩:=x
  exact ⟨o,e,fun v z=>by rw [d] at z;cases z⟩
 ·obtain ⟨o,e,c,d⟩:=x
  exact ⟨o,e,fun v z=>by rw [d] at z;cases z⟩
theorem ItAt.at {k:Bool} {h h':Heap} {it l:Addr} {i:Nat} (x:ItAt k h it l i) (f:∀o,h.get? it=some o→h'.get? it=some o):ItAt k h' it l i:=by
 cases k
 ·exact Heap.IsListIter.at x f
 ·exact Heap.IsTupleIter.at x f
section
variable {X:Cx} {pins:List (Addr×Obj)} {σ:L2.St} {H:Hp} {s:Shared}
theorem IA {k:Bool} {a:Addr} {xs:List V} (I:Inv X pins σ H s) (h:D9 k X.K H a xs):∃its:List Value,Vals xs its∧SqA k s.heap a its.toArray∧a<s.heap.objs.size:=by
 cases k
 ·obtain ⟨its,r,p,_⟩:=I.list h
  have q:=p.isList
  exact ⟨its,r,q,by obtain ⟨_,e,_⟩:=q;exact AE e⟩
 ·obtain ⟨its,r,p,_⟩:=I.tuple h
  exact ⟨its,r,p,p.lt⟩
theorem Re {k:Bool} {a:Addr} {xs ys:List V} (I:Inv X pins σ H s) (h:D9 k X.K H a xs) (h':D9 k X.K H a ys):xs=ys:=by
 cases k
 ·exact I.list_inj h h'
 ·exact I.tuple_inj h h'
end
def Rf (K:PySem.W.Frag) (k1 k2:Bool) (t u:Addr):It:=⟨fun i H=>∃xs ys,D9 k1 K H t xs∧D9 k2 K H u ys∧i<xs.length∧i<ys.length,
 fun i H x H'=>∃p v v',H p=none∧x=.ref p∧(∀xs:List V,D9 k1 K H t xs→xs[i]?=some v)∧(∀ys:List V,D9 k2 K H u ys→ys[i]?=some v')∧H'=Ao H p (.tup [v,v']),
 fun i H=>∃xs ys,D9 k1 K H t xs∧D9 k2 K H u ys∧(i=xs.length∨(i<xs.length∧i=ys.length))⟩
inductive Rg (k1 k2:Bool) (z TI TO p q t u:Addr) (i:Nat) (h:Heap):Prop where
 |mk (zz:IsZip h z TI TO .none) (zi:IsPair h TI (.ref p) (.ref q)) (zo:∃a b,IsPair h TO a b) (x1:ItAt k1 h p t i) (x2:ItAt k2 h q u i):Rg k1 k2 z TI TO p q t u i h
theorem Xw {P:Program} {w:World} {K:PySem.W.Frag} {elts:List Expr} {kt:Nat} {tpos:Pos} (k1 k2:Bool) (z TI TO p q t u:Addr) (ap:Iz z TI TO p q [p,t] [q,u]) (n1:t≠p) (n2:u≠q):
 GA P w K (.Tuple elts kt tpos) (Rf K k1 k2 t u) [z,TI,TO,p,q] z (Rg k1 k2 z TI TO p q t u) where
 mem:=by simp
 obj:=fun i h st c hc=>by
  obtain ⟨zz,zi,⟨a,b,zo⟩,x1,x2⟩:=st
  simp only [qa4,Cz,or_false] at hc
  rcases hc with rfl |rfl |rfl |rfl |rfl
  ·exact ⟨_,zz,fun v y=>by cases y⟩
  ·exact ⟨_,zi,fun v y=>by cases y⟩
  ·exact ⟨_,zo,fun v y=>by cases y⟩
  ·exact x1.obj
  ·exact x2.obj
 keep:=fun i h h' st kp=>by
  obtain ⟨zz,zi,⟨a,b,zo⟩,x1,x2⟩:=st
  exact ⟨kp z (by simp) _ zz,kp TI (by simp) _ zi,⟨a,b,kp TO (by simp) _ zo⟩,x1.at fun o e=>kp p (by simp) o e,x2.at fun o e=>kp q (by simp) o e⟩
 item:=by
  intro X hP hw hK hc i pins s σ H E I hf st hg
  subst hP hw hK
  obtain ⟨zz,zi,⟨a,b,zo⟩,x1,x2⟩:=st
  obtain ⟨xs,ys,hq1,hq2,l1,l2⟩:=hg
  obtain ⟨it1,rv1,sq1,lt1⟩:=IA I hq1
  obtain ⟨it2,rv2,sq2,lt2⟩:=IA I hq2
  have e1:=rv1.length
  have e2:=rv2.length
  have hh:X.A.in1.handled=none:=I.ok.hd hc
  refine Xu (Lq k1 hh p t n1 it1.toArray) (Lq k2 hh q u n2 it2.toArray) ap zz zi zo ⟨x1,sq1⟩ ⟨x2,sq2⟩ (by rw [A9];omega) (by rw [A9];omega) fun h1 tk x y px py zz1 zo1 st1 st2 nw kp=>?_
  refine ⟨.ref s.heap.objs.size,rfl,wpAny_letOwnedTupleGo_zip zz1 fun h2 zz2 sb=>?_⟩
  have hx:xs[i]?=some xs[i]:=Bb l1
  have hy:ys[i]?=some ys[i]:=Bb l2
  obtain ⟨u1,hu1,ru1⟩:=rv1.get hx
  obtain ⟨u2,hu2,ru2⟩:=rv2.get hy
  have hux:u1=x:=by
   have:it1[i]?=some x:=by simpa using px
   rw [hu1] at this
   exact Option.some.inj this
  have huy:u2=y:=by
   have:it2[i]?=some y:=by simpa using py
   rw [hu2] at this
   exact Option.some.inj this
  subst hux huy
  have hfr:H s.heap.objs.size=none:=I.hok.fresh (AF _)
  have kk:∀c o,c∉[z,TI,TO,p,q]→s.heap.get? c=some o→h2.get? c=some o:=fun c o hc e=>by
   simp only [qa4,Cz,or_false,not_or] at hc
   exact (sb.2 c hc.1).trans (kp c o hc.1 hc.2.2.1 hc.2.2.2.1 hc.2.2.2.2 e)
  have nal:∀c o,s.heap.get? c=some o→c≠s.heap.objs.size:=fun c o e=>BM (AE e)
  have na:s.heap.objs.size≠z:=Ne.symm (nal z _ zz)
  have hnew:h2.get? s.heap.objs.size=some {cls:=.type "tuple",data:=.seq #[u1,u2]}:=(sb.2 _ na).trans nw
  have ntr:∀c o,H c=some o→c∉[z,TI,TO,p,q]:=fun c o e hc=>by
   rw [(hf c hc).1] at e;cases e
  refine ⟨.ref s.heap.objs.size,Ao H s.heap.objs.size (.tup [xs[i],ys[i]]),?_,rfl,⟨s.heap.objs.size,xs[i],ys[i],hfr,rfl,fun zs hz=>by rw [Re I hz hq1];exact hx,fun zs hz=>by rw [Re I hz hq2];exact hy,rfl⟩,
   ⟨zz2,(sb.2 TI ap.a1).trans (kp TI _ ap.a1 ap.a5 ap.a6 ap.a7 zi),⟨u1,u2,(sb.2 TO ap.a2).trans zo1⟩,st1.1.at fun o e=>(sb.2 p ap.a3).trans e,st2.1.at fun o e=>(sb.2 q ap.a4).trans e⟩,fun c hc=>?_⟩
  ·show Inv X pins σ _ {s with heap:=h2,gens:=s.gens,drawn:=s.drawn,toks:=tk}
   refine I.step (g':=s.gens) (d':=s.drawn) (t':=tk) (h':=h2) (ch:=[z,TI,TO,p,q]) (fun c hc=>?_) (fun c o _ _ hc e _=>kk c o hc e) (fun c o _ _ hc e _=>⟨o.slots,kk c o hc e⟩) (fun c o _ e n=>by rw [Au (nal c o e)];exact n)
    (fun c o hc e=>⟨o,kk c o hc e⟩) (fun c zs e=>by rw [Au (BE e hfr)];exact e) (fun c o v e=>by rw [Au (BE e hfr)];exact e) (fun c ps e=>⟨#[],by rw [Au (BE e hfr),e];simp⟩) (fun m hm=>?_) (fun c o e=>?_) I.bare
   ·obtain ⟨_,c1,_,c3,c4,c5⟩:=hf c hc
    exact ⟨c3,c1,c4,c5⟩
   ·obtain ⟨o,es,ep,e,r⟩:=hm
    exact ⟨o,es,ep,kk _ o (fun hc=>(hf _ hc).2.1 rfl) e,r⟩
   ·by_cases hb:c=s.heap.objs.size
    ·subst hb
     rw [B3] at e
     cases e
     exact ⟨by simp only [HJ,Gs];rw [sizeLine_eq];decide,[u1,u2],.cons ru1 (.cons ru2 .nil),⟨_,hnew,rfl,0,rfl⟩,fun o e=>by rw [hnew] at e;cases e;rfl⟩
    ·rw [Au hb] at e
     refine (I.hok c o e).stay (fun d v hd e'=>kk d v ?_ e') (fun d e'=>by rw [Au (BE e' hfr)];exact e') fun d zs e'=>by rw [Au (BE e' hfr)];exact e'
     rcases hd with rfl |hd
     ·exact ntr d _ e
     ·exact ntr d _ hd
  ·have nc:c≠s.heap.objs.size:=by
    simp only [qa4,Cz,or_false] at hc
    rcases hc with rfl |rfl |rfl |rfl |rfl
    ·exact nal _ _ zz
    ·exact nal _ _ zi
    ·exact nal _ _ zo
    ·obtain ⟨o,e,_⟩:=x1.obj;exact nal _ _ e
    ·obtain ⟨o,e,_⟩:=x2.obj;exact nal _ _ e
   rw [Au nc]
   exact (hf c hc).1
 done:=by
  intro X hP hw hK hc i pins s σ H E I hf st hg
  subst hP hw hK
  obtain ⟨zz,zi,⟨a,b,zo⟩,x1,x2⟩:=st
  obtain ⟨xs,ys,hq1,hq2,hl⟩:=hg
  obtain ⟨it1,rv1,sq1,lt1⟩:=IA I hq1
  obtain ⟨it2,rv2,sq2,lt2⟩:=IA I hq2
  have e1:=rv1.length
  have e2:=rv2.length
  have hh:X.A.in1.handled=none:=I.ok.hd hc
  refine Xv (Lq k1 hh p t n1 it1.toArray) (Lq k2 hh q u n2 it2.toArray) ap zz zi zo ⟨x1,sq1⟩ ⟨x2,sq2⟩ (by simp only [A9];omega) fun h' tk kp=>⟨rfl,?_⟩
  have kk:∀c o,c∉[z,TI,TO,p,q]→s.heap.get? c=some o→h'.get? c=some o:=fun c o hc e=>by
   simp only [qa4,Cz,or_false,not_or] at hc
   exact kp c o hc.1 hc.2.2.1 hc.2.2.2.1 hc.2.2.2.2 e
  have ntr:∀c o,H c=some o→c∉[z,TI,TO,p,q]:=fun c o e hc=>by
   rw [(hf c hc).1] at e;cases e
  show Inv X pins σ _ {s with heap:=h',gens:=s.gens,drawn:=s.drawn,toks:=tk}
  refine I.step (g':=s.gens) (d':=s.drawn) (t':=tk) (h':=h') (ch:=[z,TI,TO,p,q]) (fun c hc=>?_) (fun c o _ _ hc e _=>kk c o hc e) (fun c o _ _ hc e _=>⟨o.slots,kk c o hc e⟩) (fun c o _ e n=>n)
   (fun c o hc e=>⟨o,kk c o hc e⟩) (fun c zs e=>e) (fun c o v e=>e) (fun c ps e=>⟨#[],by rw [e];simp⟩) (fun m hm=>?_) (fun c o e=>?_) I.bare
  ·obtain ⟨_,c1,_,c3,c4,c5⟩:=hf c hc
   exact ⟨c3,c1,c4,c5⟩
  ·obtain ⟨o,es,ep,e,r⟩:=hm
   exact ⟨o,es,ep,kk _ o (fun hc=>(hf _ hc).2.1 rfl) e,r⟩
  ·refine (I.hok c o e).stay (fun d v hd e'=>kk d v ?_ e') (fun d e'=>e') fun d zs e'=>e'
   rcases hd with rfl |hd
   ·exact ntr d _ e
   ·exact ntr d _ hd
 self:=fun A i s Q E st h=>by cases st with |mk zz zi zo x1 x2=>exact wpAny_pyIter_zip zz h
abbrev zA (h:Heap) (k1:Bool) (t:Addr):Heap:=h.push (GN k1 t)
abbrev zB (h:Heap) (k1 k2:Bool) (t u:Addr):Heap:=(zA h k1 t).push (GN k2 u)
abbrev zC (h:Heap) (k1 k2:Bool) (t u:Addr):Heap:=(zB h k1 k2 t u).push {cls:=.type "tuple",data:=.seq #[.ref h.objs.size,.ref (zA h k1 t).objs.size]}
abbrev zD (h:Heap) (k1 k2:Bool) (t u:Addr):Heap:=(zC h k1 k2 t u).push {cls:=.type "tuple",data:=.seq #[.none,.none]}
abbrev zE (h:Heap) (k1 k2:Bool) (t u:Addr):Heap:=(zD h k1 k2 t u).push {cls:=.type "zip",data:=.fields #[.none,.bool false,.bool false,.ref (zB h k1 k2 t u).objs.size,.ref (zC h k1 k2 t u).objs.size]}
theorem SqA.push {k:Bool} {h:Heap} {l:Addr} {xs:Array Value} (x:SqA k h l xs) (o:Obj):SqA k (h.push o) l xs:=by
 cases k
 ·exact Heap.IsList.push x o
 ·exact Heap.IsTuple.push x o
theorem Rh {prog:Program} {w:World} {A:Around} {E:Value→Shared→Prop} {s:Shared} {k:Bool} {l:Addr} {xs:Array Value} {Q:Value→Shared→Prop} (x:SqA k s.heap l xs) (hQ:Q (.ref s.heap.objs.size) {s with heap:=s.heap.push (GN k l)}):
 wpAny (model prog w) A (pyIter (.ref l)) Q E s:=by
 cases k
 ·exact wpAny_pyIter_list x hQ
 ·exact wpAny_pyIter_tuple x hQ
theorem Xx (k1 k2:Bool) (t u:Addr) (xs ys:Array Value):
 Meets (Builtin.«zip.__new__» ⟨[.type "zip",.ref t,.ref u],[]⟩) (fun _ R s=>SqA k1 s.heap t xs∧SqA k2 s.heap u ys∧
  R (.ok (.ret (.ref (zD s.heap k1 k2 t u).objs.size))) {s with heap:=zE s.heap k1 k2 t u}):=
 .of_wp fun prog w A R s h=>by
  obtain ⟨hp,g,d,tk,os⟩:=s;obtain ⟨hl1,hl2,h⟩:=h
  have hsub:=sub_zip
  have hL1:SqA k1 (Shared.heap ⟨hp,g,d,tk,os⟩) t xs:=hl1
  have hL2:SqA k2 (Shared.heap ⟨hp.push (GN k1 t),g,d,tk,os⟩) u ys:=SqA.push hl2 _
  wp_walk using Rh hL1,Rh hL2
  exact ⟨_,rfl,h⟩
theorem ItAt.new {k:Bool} {h:Heap} {it l:Addr} (e:h.get? it=some (GN k l)):ItAt k h it l 0:=by
 cases k
 ·exact ⟨_,e,rfl,rfl⟩
 ·exact ⟨_,e,rfl,rfl⟩
theorem Xy {prog:Program} {w:World} {A:Around} {E:Value→Shared→Prop} {s:Shared} {k1 k2:Bool} {t u:Addr} {xs ys:Array Value} {Q:Value→Shared→Prop} (h1:SqA k1 s.heap t xs) (h2:SqA k2 s.heap u ys)
 (h:∀h',IsZip h' (s.heap.objs.size+4) (s.heap.objs.size+2) (s.heap.objs.size+3) .none→IsPair h' (s.heap.objs.size+2) (.ref s.heap.objs.size) (.ref (s.heap.objs.size+1))→
  IsPair h' (s.heap.objs.size+3) .none .none→ItAt k1 h' s.heap.objs.size t 0→ItAt k2 h' (s.heap.objs.size+1) u 0→(∀c o,s.heap.get? c=some o→h'.get? c=some o)→Q (.ref (s.heap.objs.size+4)) {s with heap:=h'}):
 wpAny (model prog w) A (call (.type "zip") [.ref t,.ref u]) Q E s:=by
 refine callType_new F.called_zip (by decide) (F.typeCall_zip_2 _ _) (F.newCall_zip_2 _ _) (fun obj=>F.args_object_init_3 obj _ _) F.entry_zip_new
  (Xx k1 k2 t u xs ys) ⟨h1,h2,?_⟩
 have y1:(zA s.heap k1 t).objs.size=s.heap.objs.size+1:=B9 ..
 have y2:(zB s.heap k1 k2 t u).objs.size=s.heap.objs.size+2:=by rw [B9,y1]
 have y3:(zC s.heap k1 k2 t u).objs.size=s.heap.objs.size+3:=by rw [B9,y2]
 have y4:(zD s.heap k1 k2 t u).objs.size=s.heap.objs.size+4:=by rw [B9,y3]
 have g5:(zE s.heap k1 k2 t u).get? (zD s.heap k1 k2 t u).objs.size=some _:=A7 _ rfl
 have g4:(zE s.heap k1 k2 t u).get? (zC s.heap k1 k2 t u).objs.size=some _:=AB _ (A7 _ rfl)
 have g3:(zE s.heap k1 k2 t u).get? (zB s.heap k1 k2 t u).objs.size=some _:=AB _ (AB _ (A7 _ rfl))
 have g2:(zE s.heap k1 k2 t u).get? (zA s.heap k1 t).objs.size=some (GN k2 u):=AB _ (AB _ (AB _ (A7 _ rfl)))
 have g1:(zE s.heap k1 k2 t u).get? s.heap.objs.size=some (GN k1 t):=AB _ (AB _ (AB _ (AB _ (A7 _ rfl))))
 show _∧_
 rw [y2,y3,y4] at g5
 rw [y1,y2] at g3
 rw [y3] at g4
 rw [y1] at g2
 rw [y4]
 exact ⟨⟨_,g5,rfl⟩,h _ g5 g3 g4 (.new g1) (.new g2) fun c o x=>AB _ (AB _ (AB _ (AB _ (AB _ x))))⟩
section
variable {X:Cx} {E:XK}
theorem Xz {elts:List Expr} {kt:Nat} {tpos p pos:Pos} {a b:Expr} {ta:TA} (hg:Gl X "zip") (hm:X.mg "zip"=none) (ha:PA X [a,b] ta) (hs:starEach [a,b] X.env=[(false,eval a X.env),(false,eval b X.env)]:=by rfl) (hs2:starEach [b] X.env=[(false,eval b X.env)]:=by rfl):
 PI X (.Tuple elts kt tpos) (.Call (.Name "zip" p) [a,b] [] pos) (fun σ H R=>ta σ H fun vs H1=>∃k1 k2 t u xs ys,vs=[.ref t,.ref u]∧D9 k1 X.K H1 t xs∧D9 k2 X.K H1 u ys∧R (Rf X.K k1 k2 t u) H1):=by
 intro pins s σ H R I h
 refine Call_ (Gx I hg hm PyProof.Rows.boot_zip (PyProof.Rows.callWith_type1 (Ax (ha pos pins s σ H _ I h) fun us s1 ⟨vs,H1,I1,r1,q1⟩=>?_) (by rw [hs,hs2]) (by rw [hs2];rfl)))
 obtain ⟨k1,k2,t,u,xs,ys,e,hq1,hq2,q⟩:=q1
 subst e
 cases r1 with
 |cons r rr=>
  cases rr with
  |cons r' rr=>
   cases rr
   cases r
   cases r'
   obtain ⟨it1,rv1,sq1,lt1⟩:=IA I1 hq1
   obtain ⟨it2,rv2,sq2,lt2⟩:=IA I1 hq2
   refine Xy sq1 sq2 fun h' zz zi zo x1 x2 kp=>wpAny_pyIter_zip (s:={s1 with heap:=h'}) zz ?_
   have I2:Inv X pins σ H1 {s1 with heap:=h'}:=I1.kept (t':=s1.toks) kp
   have fr:∀c,s1.heap.objs.size≤c→EO X pins H1 c:=fun c hc=>I1.fpOk hc (I1.hok.fresh hc)
   have m0:s1.heap.objs.size≠s1.heap.objs.size+4:=Bg (by omega)
   have ap:Iz (s1.heap.objs.size+4) (s1.heap.objs.size+2) (s1.heap.objs.size+3) s1.heap.objs.size (s1.heap.objs.size+1) [s1.heap.objs.size,t] [s1.heap.objs.size+1,u]:=by
    generalize s1.heap.objs.size=n at lt1 lt2
    exact ⟨Bg (by omega),Bg (by omega),Bg (by omega),Bg (by omega),Bg (by omega),BP (by omega),BP (by omega),BP (by omega),BP (by omega),Bg (by omega),
     fun z=>by simp only [qa4,Cz,or_false] at z;rcases z with z |z;exact absurd z (BP (by omega));exact absurd z (BP (A0 lt1 (Fs _ _))),
     fun z=>by simp only [qa4,Cz,or_false] at z;rcases z with z |z;exact absurd z (BP (by omega));exact absurd z (BP (A0 lt2 (Fs _ _))),
     fun z=>by simp only [qa4,Cz,or_false] at z;rcases z with z |z;exact absurd z (BP (by omega));exact absurd z (BP (A0 lt1 (Fs _ _))),
     fun z=>by simp only [qa4,Cz,or_false] at z;rcases z with z |z;exact absurd z (BP (by omega));exact absurd z (BP (A0 lt2 (Fs _ _))),
     fun z=>by simp only [qa4,Cz,or_false] at z;rcases z with z |z;exact absurd z (Bg (by omega));exact absurd z (BP lt2),
     fun z=>by simp only [qa4,Cz,or_false] at z;rcases z with z |z;exact absurd z (BP (by omega));exact absurd z (BP (A0 lt1 (Fs _ _)))⟩
   refine ⟨s1.heap.objs.size+4,[s1.heap.objs.size+4,s1.heap.objs.size+2,s1.heap.objs.size+3,s1.heap.objs.size,s1.heap.objs.size+1],_,_,H1,rfl,I2,Xw k1 k2 _ _ _ _ _ t u ap (BM lt1) (BM (Fq lt2)),⟨zz,zi,⟨_,_,zo⟩,x1,x2⟩,fun c hc=>?_,q⟩
   simp only [qa4,Cz,or_false] at hc
   rcases hc with rfl |rfl |rfl |rfl |rfl
   ·exact fr _ (Fs _ _)
   ·exact fr _ (Fs _ _)
   ·exact fr _ (Fs _ _)
   ·exact fr _ (AF _)
   ·exact fr _ (Fs _ _)
def IB (xs ys:List D):List D:=List.zipWith (fun a b=>.tup [a,b]) xs ys
def DL:D→HD→Option (List D×Bi)
 |.tup xs,_=>some (xs,[])
 |.loc l,h=>match h[l]? with
  |some (.lst xs)=>some (xs,[(l,xs)])
  |_=>none
 |_,_=>none
def JP:List D→HD→Out (List D×Bi):=fun ds h=>match ds with
 |[x,y]=>match DL x h,DL y h with
  |some (xs,s1),some (ys,s2)=>.ok (IB xs ys,s1++s2) h
  |_,_=>.stuck
 |_=>.stuck
def Lr (fa:MA):MI:=fun ρ h=>(fa ρ h).bind JP
theorem Ri {m:List Addr} {h:HD} {d:D} {v:V} {H:Hp} {xs:List D} {sr:Bi} (hr:HR X.K m h H) (r:DV X.K m H d v) (e:DL d h=some (xs,sr)):
 ∃k t,v=.ref t∧∀m2 h2 H2,m <+:m2→Kp H H2→HR X.K m2 h2 H2→(∀p∈sr,h2[p.1]?=some (.lst p.2))→∃vs,D9 k X.K H2 t vs∧DVs X.K m2 H2 xs vs:=by
 cases d with
 |tup zs=>
  simp only [DL,Option.some.injEq,Prod.mk.injEq] at e
  obtain ⟨rfl,rfl⟩:=e
  simp only [DV] at r
  obtain ⟨a,vs,rfl,ha,dv⟩:=r
  exact ⟨true,a,rfl,fun m2 h2 H2 p2 k2 hr2 _=>⟨vs,SqT.of (k2 _ _ ha rfl),dv.keep p2 k2⟩⟩
 |loc l=>
  simp only [DL] at e
  split at e
  ·rename_i zs el
   simp only [Option.some.injEq,Prod.mk.injEq] at e
   obtain ⟨rfl,rfl⟩:=e
   simp only [DV] at r
   obtain ⟨a,rfl,ha⟩:=r
   refine ⟨false,a,rfl,fun m2 h2 H2 p2 k2 hr2 hs=>?_⟩
   obtain ⟨ws,hw,dw⟩:=hr2.cells l _ a (hs _ A8) (Jj p2 ha)
   exact ⟨ws,SqL.of hw,dw⟩
  ·cases e
 |_=>simp [DL] at e
theorem Rj {h:HD} {d:D} {xs:List D} {sr:Bi} (e:DL d h=some (xs,sr)):∀p∈sr,h[p.1]?=some (.lst p.2):=by
 cases d with
 |tup zs=>
  simp only [DL,Option.some.injEq,Prod.mk.injEq] at e
  obtain ⟨rfl,rfl⟩:=e
  exact fun p hp=>nomatch hp
 |loc l=>
  simp only [DL] at e
  split at e
  ·rename_i zs el
   simp only [Option.some.injEq,Prod.mk.injEq] at e
   obtain ⟨rfl,rfl⟩:=e
   intro p hp
   rw [qaH] at hp
   subst hp
   exact el
  ·cases e
 |_=>simp [DL] at e
theorem XA {elts:List Expr} {kt:Nat} {tpos p pos:Pos} {a b:Expr} {fa:MA} (hg:Gl X "zip") (hm:X.mg "zip"=none) (ha:CS X E [a,b] fa) (hs:starEach [a,b] X.env=[(false,eval a X.env),(false,eval b X.env)]:=by rfl) (hs2:starEach [b] X.env=[(false,eval b X.env)]:=by rfl):
 F9 X E (.Tuple elts kt tpos) (.Call (.Name "zip" p) [a,b] [] pos) (Lr fa):=
 Jy (Xz hg hm ha hs hs2) fun σ H R ⟨m,ρ,h,hr,er,p⟩=>⟨m,ρ,h,hr,er,Post.bind p fun x h1 v m1 H1 eo p1 k1 hr1 r1 q1=>by
  clear eo
  unfold JP at q1
  split at q1
  ·rename_i d1 d2
   split at q1
   ·rename_i xs s1 ys s2 e1 e2
    simp only [EV,DVs] at r1
    obtain ⟨v1,w1,rfl,rv1,v2,w2,rfl,rv2,rfl⟩:=r1
    obtain ⟨kd1,t,rfl,f1⟩:=Ri hr1 rv1 e1
    obtain ⟨kd2,u,rfl,f2⟩:=Ri hr1 rv2 e2
    obtain ⟨vs1,sq1,_⟩:=f1 m1 h1 H1 (AQ _) (.refl _) hr1 (Rj e1)
    obtain ⟨vs2,sq2,_⟩:=f2 m1 h1 H1 (AQ _) (.refl _) hr1 (Rj e2)
    refine ⟨kd1,kd2,t,u,vs1,vs2,rfl,sq1,sq2,q1 _ m1 H1 (AQ _) (.refl _) hr1 fun i m2 h2 H2 p2 k2 hr2 hsr=>?_⟩
    obtain ⟨ws1,sw1,dw1⟩:=f1 m2 h2 H2 p2 k2 hr2 fun p hp=>hsr p (HC _ hp)
    obtain ⟨ws2,sw2,dw2⟩:=f2 m2 h2 H2 p2 k2 hr2 fun p hp=>hsr p (Dk _ hp)
    have n1:=dw1.len
    have n2:=dw2.len
    have nl:(IB xs ys).length=min xs.length ys.length:=by simp [IB]
    refine ⟨fun hi=>?_,fun hi=>⟨ws1,ws2,sw1,sw2,by dsimp only at hi;omega⟩⟩
    dsimp only at hi
    have i1:i<xs.length:=by omega
    have i2:i<ys.length:=by omega
    refine ⟨⟨ws1,ws2,sw1,sw2,by omega,by omega⟩,fun y H3 z3_=>?_⟩
    obtain ⟨pp,vv,vv',hp,ey,ev,ev',eH⟩:=z3_
    subst ey eH
    have g1:xs[i]?=some xs[i]:=Bb i1
    have g2:ys[i]?=some ys[i]:=Bb i2
    obtain ⟨c1,z1,r1'⟩:=dw1.get g1
    obtain ⟨c2,z2,r2'⟩:=dw2.get g2
    rw [ev ws1 sw1] at z1
    rw [ev' ws2 sw2] at z2
    cases z1
    cases z2
    refine ⟨.new hp,hr2.new hp,.tup [xs[i],ys[i]],?_,?_⟩
    ·simp [IB,List.getElem?_zipWith,g1,g2]
    ·simp only [DV]
     exact ⟨pp,_,rfl,B3,.cons (DV.keep (AQ _) (.new hp) r1') (.cons (DV.keep (AQ _) (.new hp) r2') .nil)⟩
   ·exact q1.elim
  ·exact q1.elim⟩
end
end LS
namespace LS
open PySem PySem.Spec PyProof.Rows L2
section
variable {ρ:Aj} {h:HD} {QI:(List D×Bi)→HD→Prop} {Q:D→HD→Prop} {QO:Option Int→HD→Prop} {QS:Fl×Aj→HD→Prop} {f fo fi fv:ME} {lo hi:MO} {fa:MA}
@[simp] theorem Zej:Wp (E6 fa ρ h) QI=Wp (fa ρ h) fun d h1=>Wp (JO d h1) QI:=by unfold E6;rw [AG]
@[simp] theorem Zek:Wp (Lr fa ρ h) QI=Wp (fa ρ h) fun d h1=>Wp (JP d h1) QI:=by unfold Lr;rw [AG]
@[simp] theorem Zel:Wp (Q7 f lo hi ρ h) Q=Wp (f ρ h) fun x h1=>Wp (lo ρ h1) fun l h2=>Wp (hi ρ h2) fun u h3=>Wp (Q6 x l u h3) Q:=by unfold Q7;simp only [AG]
@[simp] theorem Zem:Wp (FG ρ h) QO=QO none h:=id rfl
@[simp] theorem Zen:Wp (E5 f ρ h) QO=Wp (f ρ h) fun x h1=>Wp (match x with
  |.int i=>(.ok (some i) h1:Out (Option Int))
  |_=>.stuck) QO:=by unfold E5;rw [AG]<;>rfl
@[simp] theorem Zeo:Wp (Ra fo fi fv ρ h) QS=Wp (fo ρ h) fun o h1=>Wp (fi ρ h1) fun i h2=>Wp (Q9 o i h2) fun x h3=>Wp (fv ρ h3) fun y h4=>Wp (Q8 o i x y ρ h4) QS:=by unfold Ra;simp only [AG]
theorem XB {n:Nat} {e:Nat→D}:Ep ((List.range n).map e)=(List.range n).map fun k=>D.tup [.int ((k:Nat):Int),e k]:=by
 unfold Ep
 apply Ko
 ·simp
 ·intro i h1 h2;simp
theorem IC {n:Nat} {e:Nat→D}:JO [.tup ((List.range n).map e)] h=.ok ((List.range n).map fun k=>D.tup [.int ((k:Nat):Int),e k],[]) h:=by
 simp only [JO,XB]
theorem XC {n:Nat} {e e':Nat→D}:IB ((List.range n).map e) ((List.range n).map e')=(List.range n).map fun k=>D.tup [e k,e' k]:=by
 unfold IB
 apply Ko
 ·simp
 ·intro i h1 h2;simp
theorem XE {n:Nat} {e e':Nat→D} {x y:D} {s1 s2:Bi} (hx:DL x h=some ((List.range n).map e,s1)) (hy:DL y h=some ((List.range n).map e',s2)):
 JP [x,y] h=.ok ((List.range n).map fun k=>D.tup [e k,e' k],s1++s2) h:=by
 simp only [JP,hx,hy,XC]
theorem Rk {ds:List D}:DL (.tup ds) h=some (ds,[]):=rfl
theorem Rl {l:Nat} {F:List Int→Int} {ns:List Int} (e:h[l]?=some (.lst (ns.map D.int))) (hn:ns≠[]):FI F (.loc l) h=.ok (.int (F ns)) h:=by
 simp only [FI,e,Eg]
 rw [FD (f:=FC∘D.int) (g:=id) (fun x _=>rfl)]
 simp only [List.map_id,if_neg hn]
theorem GO {l:Nat} {ds:List D} (e:h[l]?=some (.lst ds)):FA (.loc l) h=.ok (ds,[(l,ds)]) h:=by
 simp only [FA,BA,e,Qh]
theorem XF {l k:Nat} {xs ys:List D} (e:h[l]?=some (.lst xs)) (e':h[k]?=some (.lst ys)):AL (.loc l) (.loc k) h=B6 (xs++ys) h:=by
 simp only [AL,e,e']
theorem XG {xs ys:List D} (hn:xs.length+ys.length≤sizeLine):AL (.tup xs) (.tup ys) h=.ok (.tup (xs++ys)) h:=by
 simp only [AL];rw [if_pos hn]
theorem XH {l:Nat} {ds:List D} (e:h[l]?=some (.lst ds)):Bn (.loc l) h=.ok (.int ds.length) h:=by
 simp only [Bn,BA,e]
theorem Rm {a:D}:∀n:Nat,(List.replicate n [a]).flatten=List.replicate n a
 |0=>rfl
 |n+1=>by rw [FP,Gp,Rm n];rfl
theorem XI {l n:Nat} {a:D} (e:h[l]?=some (.lst [a])) (hn:n≤1000):DJ (.loc l) (.int (n:Nat)) h=B6 (List.replicate n a) h:=by
 have:(-(2^63):Int)≤(n:Int)∧(n:Int)<2^63:=by omega
 simp only [DJ,e]
 rw [if_pos this]
 simp [Rm]
end
noncomputable def NR (cs:List (Option Nat)) (it:MI) (sg:MG) (t:MT) (f:ME):ME:=Ag (An CU) (Aa (AX cs it sg t f) Ad)
noncomputable def NS (F:List Int→Int) (cs:List (Option Nat)) (it:MI) (sg:MG) (t:MT) (f:ME):ME:=Ag (An (FI F)) (Aa (AX cs it sg t f) Ad)
section
variable {α:Type} {cs:List (Option Nat)} {it:MI} {sg:MG} {t:MT} {f:ME} {ρ:Aj} {h:HD} {src:Bi} {xs:List α} {φ:α→D} {F:List Int→Int}
@[simp] theorem Zep:Ag (An CU) (Aa (AX cs it sg t f) Ad) ρ h=NR cs it sg t f ρ h:=rfl
@[simp] theorem Zeq:Ag (An (FI F)) (Aa (AX cs it sg t f) Ad) ρ h=NS F cs it sg t f ρ h:=rfl
theorem Ls (n:α→Int) (ρ1:α→Aj) (hi:Cq (it ρ h) h (xs.map φ) src) (hg:∀x∈xs,sg (φ x) (Cn cs ρ)=some (ρ1 x)) (hf:∀x∈xs,∀h',Sm h h'→Pu (f (ρ1 x) h') h' (.int (n x))) (hn:xs.length≤sizeLine):
 Pu (NR cs it sg Br f ρ h) h (.int (xs.map n).sum):=by
 unfold Pu NR
 rw [Il,Im]
 refine E2 (fun _=>true) (fun x=>.int (n x)) ρ1 hi hn hg (fun x hx h' s'=>(.ok:Pu (.ok true h') h' true)) (fun x hx _ h' s'=>hf x hx h' s') fun l h' s' e'=>?_
 rw [Ge] at e'
 rw [GJ]
 simp only [An,CU,BA,e',Eg]
 rw [FD (f:=FC∘fun x=>D.int (n x)) (g:=n) (fun x _=>rfl)]
 exact ⟨rfl,s'⟩
theorem XJ (n:α→Int) (ρ1:α→Aj) (hi:Cq (it ρ h) h (xs.map φ) src) (hg:∀x∈xs,sg (φ x) (Cn cs ρ)=some (ρ1 x)) (hf:∀x∈xs,∀h',Sm h h'→Pu (f (ρ1 x) h') h' (.int (n x))) (hn:xs.length≤sizeLine) (hne:xs≠[]):
 Pu (NS F cs it sg Br f ρ h) h (.int (F (xs.map n))):=by
 unfold Pu NS
 rw [Il,Im]
 refine E2 (fun _=>true) (fun x=>.int (n x)) ρ1 hi hn hg (fun x hx h' s'=>(.ok:Pu (.ok true h') h' true)) (fun x hx _ h' s'=>hf x hx h' s') fun l h' s' e'=>?_
 rw [Ge] at e'
 rw [GJ,QM,Rl (ns:=xs.map n) (by rw [e',Eg];rfl) (by simpa using hne)]
 exact ⟨rfl,s'⟩
theorem XM {l:Nat} {ds:List D} {o:Out D} {h1:HD} (e:o=.ok (.loc l) h1) (s:Sm h h1) (el:h1[l]?=some (.lst ds)):Cq (o.bind FA) h ds [(l,ds)]:=by
 subst e
 simp only [Out.bind_ok,GO el,Cq,B7]
 exact ⟨trivial,s,fun h2 s2=>GH (s2 _ _ el)⟩
end
section
variable {X:Cx} {E:XK}
end
section
variable {X:Cx}
def Rn:D→HD→Out D:=fun x h=>match x with
 |.loc l=>match h[l]? with
  |some (.lst ds)=>match AV (ds.map Ih) with
   |some bs=>.ok (.bl (bs.any id)) h
   |none=>.stuck
  |_=>.stuck
 |_=>.stuck
end
noncomputable def XN (cs:List (Option Nat)) (it:MI) (sg:MG) (t:MT) (f:ME):ME:=Ag (An Rn) (Aa (AX cs it sg t f) Ad)
section
variable {α:Type} {cs:List (Option Nat)} {it:MI} {sg:MG} {t:MT} {f:ME} {ρ:Aj} {h:HD} {src:Bi} {xs:List α} {φ:α→D}
@[simp] theorem Zer:Ag (An Rn) (Aa (AX cs it sg t f) Ad) ρ h=XN cs it sg t f ρ h:=rfl
end
end LS
namespace LK
open LS
def Bj (n:Nat) (r:Nat→Bool):Int:=((List.range n).map fun j=>if r j then (1:Int) else 0).sum
theorem NT {α:Type} {f g:α→Int}:∀{xs:List α},(xs.map fun x=>f x+g x).sum=(xs.map f).sum+(xs.map g).sum
 |[]=>rfl
 |x::xs=>by simp only [Bu,List.sum_cons,NT (xs:=xs)];omega
theorem NU {α:Type}:∀{xs:List α},(xs.map fun _=>(0:Int)).sum=0
 |[]=>rfl
 |x::xs=>by simp only [Bu,List.sum_cons,NU (xs:=xs)];rfl
theorem Ro {α β:Type} {f:α→β→Int} {ys:List β}:∀{xs:List α},(xs.map fun x=>(ys.map fun y=>f x y).sum).sum=(ys.map fun y=>(xs.map fun x=>f x y).sum).sum
 |[]=>by simp [NU]
 |x::xs=>by
  simp only [Bu,List.sum_cons,Ro (xs:=xs)]
  rw [←NT]
theorem Lu {α:Type} {f g:α→Int}:∀{xs:List α},(∀x∈xs,f x≤g x)→(xs.map f).sum≤(xs.map g).sum
 |[],_=>Int.le_refl _
 |x::xs,h=>by
  simp only [Bu,List.sum_cons]
  have:=h x A8
  have:=Lu (xs:=xs) fun y hy=>h y (Bf _ hy)
  omega
theorem GP {α:Type} {f g:α→Int} {xs:List α} (h:∀x∈xs,f x=g x):(xs.map f).sum=(xs.map g).sum:=by
 rw [HH h]
theorem ID {n:Nat} {r r':Nat→Bool} (h:∀i,i<n→r i=r' i):Bj n r=Bj n r':=
 GP fun i hi=>by rw [h i (by simpa using hi)]
theorem XO {n:Nat} {r:Nat→Bool}:Bj n (fun i=>!r i)=n - Bj n r:=by
 have:Bj n (fun i=>!r i)+Bj n r=n:=by
  unfold Bj
  rw [←NT]
  have:∀m:Nat,((List.range m).map fun i=>(if (!r i)=true then (1:Int) else 0)+if r i=true then 1 else 0).sum=m:=fun m=>by
   induction m with
   |zero=>rfl
   |succ m ih=>
    rw [DD,DT,FU,ih]
    cases e:r m<;>simp [e]
  exact this n
 omega
theorem Rq {n:Nat} {r:Nat→Bool}:0≤Bj n r∧Bj n r≤n:=by
 unfold Bj
 induction n with
 |zero=>simp
 |succ n ih=>
  rw [DD,DT,FU]
  cases r n<;>simp<;>omega
def cc (H:Nat) (f:Nat→Nat→Bool) (R:Nat→Bool) (j:Nat):Int:=Bj H fun i=>Bool.xor (f i j) (R i)
def NV (W:Nat) (H:Int) (c:Nat→Int) (C:Nat→Bool):Int:=((List.range W).map fun j=>if C j then H - c j else c j).sum
def Cd (W:Nat) (H:Int) (c:Nat→Int):Int:=((List.range W).map fun j=>if H - c j<c j then H - c j else c j).sum
def TT (H W:Nat) (f:Nat→Nat→Bool) (R C:Nat→Bool):Int:=NV W H (cc H f R) C
theorem Rr {H:Nat} {f:Nat→Nat→Bool} {R R':Nat→Bool} {j:Nat} (h:∀i,i<H→R i=R' i):cc H f R j=cc H f R' j:=ID fun i hi=>by rw [h i hi]
theorem XQ {H W:Nat} {f:Nat→Nat→Bool} {R R' C C':Nat→Bool} (h:∀i,i<H→R i=R' i) (h':∀j,j<W→C j=C' j):TT H W f R C=TT H W f R' C':=
 GP fun j hj=>by rw [Rr h,h' j (by simpa using hj)]
theorem Lw {H W:Nat} {f:Nat→Nat→Bool} {R C:Nat→Bool}:TT H W f R C=((List.range W).map fun j=>Bj H fun i=>Bool.xor (f i j) (Bool.xor (R i) (C j))).sum:=by
 refine GP fun j _=>?_
 cases C j
 ·simp only [B2,if_false,Bool.xor_false];rfl
 ·simp only [if_true,cc]
  rw [←XO]
  exact ID fun i _=>by cases f i j<;>cases R i<;>rfl
theorem NW {H W:Nat} {f:Nat→Nat→Bool} {R C:Nat→Bool}:((List.range H).map fun i=>Bj W fun j=>Bool.xor (f i j) (Bool.xor (R i) (C j))).sum=TT H W f R C:=by
 rw [Lw];exact Ro
theorem Rt {H W:Nat} {f:Nat→Nat→Bool} {R C:Nat→Bool}:TT W H (fun i j=>f j i) C R=TT H W f R C:=by
 rw [Lw,←NW]
 exact GP fun i _=>ID fun j _=>by cases f i j<;>cases R i<;>cases C j<;>rfl
theorem XR {H W:Nat} {f:Nat→Nat→Bool} {R C:Nat→Bool}:TT H W f (fun i=>!R i) (fun j=>!C j)=TT H W f R C:=by
 rw [Lw,Lw]
 exact GP fun j _=>ID fun i _=>by cases f i j<;>cases R i<;>cases C j<;>rfl
theorem XS {W:Nat} {H:Int} {c:Nat→Int} {C:Nat→Bool}:Cd W H c≤NV W H c C:=
 Lu fun j _=>by split<;>split<;>omega
def Eu (H:Int) (c:Nat→Int) (j:Nat):Bool:=decide (H<2*c j)
theorem NX {W:Nat} {H:Int} {c:Nat→Int}:NV W H c (Eu H c)=Cd W H c:=
 GP fun j _=>by
  unfold Eu
  by_cases h:H<2*c j
  ·rw [if_pos (by simpa using h),if_pos (by omega)]
  ·rw [if_neg (by simpa using h),if_neg (by omega)]
def ext (n:Nat) (R:Nat→Bool):Nat→Bool:=fun i=>if i=n then true else R i
def LL (s:Nat):Nat→List (Nat→Bool)
 |0=>[fun _=>false]
 |k+1=>LL s k++(LL s k).map (ext (s+k))
theorem IE {s:Nat}:∀{k:Nat} {R:Nat→Bool},R∈LL s k→∀i,i<s∨s+k≤i→R i=false
 |0,R,h,i,_=>by
  simp only [LL,qaH] at h
  subst h;rfl
 |k+1,R,h,i,hi=>by
  rcases qaW.mp h with z |z
  ·exact IE z i (by omega)
  ·obtain ⟨R',z1,rfl⟩:=qaT.mp z
   unfold ext
   rw [if_neg (by omega)]
   exact IE z1 i (by omega)
theorem Ru {s:Nat} (R:Nat→Bool):∀k:Nat,∃R'∈LL s k,∀i,s≤i→i<s+k→R' i=R i
 |0=>⟨_,A8,fun i h1 h2=>by omega⟩
 |k+1=>by
  obtain ⟨R',h1,h2⟩:=Ru R k
  cases e:R (s+k) with
  |false=>
   refine ⟨R',HC _ h1,fun i hi hi2=>?_⟩
   by_cases hz:i=s+k
   ·rw [hz,e];exact IE h1 _ (by omega)
   ·exact h2 i hi (by omega)
  |true=>
   refine ⟨ext (s+k) R',Dk _ (qaT.mpr ⟨R',h1,rfl⟩),fun i hi hi2=>?_⟩
   unfold ext
   by_cases hz:i=s+k
   ·rw [if_pos hz,hz,e]
   ·rw [if_neg hz];exact h2 i hi (by omega)
theorem NY {s:Nat}:∀k,(LL s k).length=2^k
 |0=>rfl
 |k+1=>by simp only [LL,FQ,CA,NY k];omega
def left (H W:Nat) (f:Nat→Nat→Bool):Int:=FH ((LL 1 (H - 1)).map fun R=>Cd W H (cc H f R))
theorem Rv {s k:Nat}:LL s k≠[]:=fun h=>by
 have:=NY (s:=s) k
 rw [h] at this
 have:0<2^k:=Nat.two_pow_pos k
 simp_all
theorem JQ {H W:Nat} {f:Nat→Nat→Bool}:∃R∈LL 1 (H - 1),Cd W H (cc H f R)=left H W f:=by
 have:=NP (ns:=(LL 1 (H - 1)).map fun R=>Cd W H (cc H f R)) (by simp [Rv])
 obtain ⟨R,h,e⟩:=qaT.mp this
 exact ⟨R,h,e⟩
theorem XT {H W:Nat} {f:Nat→Nat→Bool} {R:Nat→Bool} (h:R∈LL 1 (H - 1)):left H W f≤Cd W H (cc H f R):=NQ (qaT.mpr ⟨R,h,rfl⟩)
theorem NZ {H W:Nat} {f:Nat→Nat→Bool} (hH:1≤H) (R C:Nat→Bool):left H W f≤TT H W f R C:=by
 have key:∀R C:Nat→Bool,R 0=false→left H W f≤TT H W f R C:=fun R C h0=>by
  obtain ⟨R',h1,h2⟩:=Ru (s:=1) R (H - 1)
  have:∀i,i<H→R i=R' i:=fun i hi=>by
   by_cases hz:i=0
   ·rw [hz,h0];exact (IE h1 0 (by omega)).symm
   ·exact (h2 i (by omega) (by omega)).symm
  rw [XQ this (fun _ _=>rfl)]
  exact Int.le_trans (XT h1) XS
 cases h:R 0 with
 |false=>exact key R C h
 |true=>
  rw [←XR]
  exact key _ _ (by simp [h])
theorem Rw {H W:Nat} (f:Nat→Nat→Bool):∃R C,TT H W f R C=left H W f:=by
 obtain ⟨R,_,e⟩:=JQ (H:=H) (W:=W) (f:=f)
 exact ⟨R,Eu H (cc H f R),by rw [←e];exact NX⟩
theorem XU {H W:Nat} {f:Nat→Nat→Bool} (hH:1≤H) (hW:1≤W):left W H (fun i j=>f j i)=left H W f:=by
 refine Int.le_antisymm ?_ ?_
 ·obtain ⟨R,C,e⟩:=Rw (H:=H) (W:=W) f
  rw [←e,←Rt]
  exact NZ hW _ _
 ·obtain ⟨C,R,e⟩:=Rw (H:=W) (W:=H) (fun i j=>f j i)
  rw [←e,Rt]
  exact NZ hH _ _
end LK
namespace LS
open PySem PySem.Spec PyProof.Rows L2 PySem.W
structure EC (K:Frag) (C:Addr):Prop where
 ga:findIn K (.ref C) "__getattribute__"=some (some (.builtin "BaseException.__getattribute__"))
 gt:findIn K (.ref C) "__getattr__"=some none
 cl:(clsIn K C).isSome=true
 ac:findIn K (.ref C) "__class__"=some (some (.builtin "object.__class__"))
 sg:specialIn K (.builtin "object.__class__") "__get__"=some (some (.builtin "getset_descriptor.__get__"))
 tk:takesIn K (.builtin "object.__class__")=some true
 mo:mroIn K C (.type "object")=some true
 mb:mroIn K C (.type "BaseException")=some true
section
variable {prog:Program} {w:World} {A:Around} {E:Value→Shared→Prop} {s:Shared} {K:Frag} {x C:Addr} {ox:Obj} {od:Option Obj}
def TyAt (x C:Addr) (h:Heap):Prop:=∃o,h.get? x=some o∧o.cls=.ref C
theorem TyAt.type {M:Model} {h:Heap} (t:TyAt x C h):Looks M h (typeOf (.ref x)) (.ref C):=by
 obtain ⟨o,h1,h2⟩:=t
 exact h2 ▸ (Looks.ld h1).andThen .now
theorem XW {M:Model} {h:Heap} (c:EC K C) (X:K.In h):Looks M h (Builtin.ObjectAttr.find (.ref x) (.ref C) "__class__") (.bind (.builtin "getset_descriptor.__get__") (.builtin "object.__class__")):=by
 have L1:=looks_findIn (M:=M) X c.ac
 have L2:Looks M h (Builtin.ObjectAttr.getOf (some (.builtin "object.__class__"))) (some (.builtin "getset_descriptor.__get__")):=looks_specialIn X c.sg
 have L3:=looks_takesIn (M:=M) X c.tk
 refine L1.andThen (L2.andThen ?_)
 exact (show Looks M h (Builtin.ObjectAttr.dataDescriptor? (some (.builtin "object.__class__")) (some (.builtin "getset_descriptor.__get__"))) (some (.builtin "getset_descriptor.__get__",.builtin "object.__class__")) from L3.andThen .now).andThen (Looks.tag .now)
theorem XX {R:Result→Shared→Prop} {tp:Value} (X:K.In s.heap) (I:TyAt x C s.heap) (hm:mroIn K C (.type "object")=some true)
 (h:R (.ok (.ret (.ref C))) s):codeAny (model prog w) A (.call (.builtin "getset_descriptor.__get__") ⟨[.builtin "object.__class__",.ref x,tp],[]⟩) R s:=by
 obtain ⟨hh,g,dr,t,os⟩:=s
 have L0:=I.type (M:=model prog w)
 have L1:=looks_mroIn (M:=model prog w) X hm
 refine codeAny_call_builtin KF.slot_gs.plain KF.entry_gs (KF.slot_gs.check _ _ _ _ _ _ _ _ KF.type_class (KF.args_gs _ _ _) ?_)
 unfold Builtin.«getset_descriptor.__get__» Builtin.Getset_descriptor.descrGet
 rw [dga_obj]
 refine wpAny_bind (wpAny_pure ?_)
 unfold Builtin.Getset_descriptor.descrGetter Builtin.Getset_descriptor.descrCheckInstance Builtin.Getset_descriptor.descrNameAndClass isInstance
 simp only [KF.owner_class]
 repeat lk
 refine ⟨Code.quiet_builtin _ (by decide +kernel),codeAny_builtin KF.entry_class ?_⟩
 unfold Builtin.«object.__class__» shownTypeOf
 repeat lk
 exact h
theorem XY {Q:Option Value→Shared→Prop} (c:EC K C) (X:K.In s.heap) (I:TyAt x C s.heap) (h:Q (some (.ref C)) {s with toks:=s.toks+1}):wpAny (model prog w) A (getAttr? (.ref x) "__class__") Q E s:=by
 obtain ⟨hh,g,d,t,os⟩:=s
 have L0:=I.type (M:=model prog w)
 have L1:=looks_findIn (M:=model prog w) X c.ga
 have L2:=looks_findIn (M:=model prog w) X c.gt
 have LF:=XW (M:=model prog w) (x:=x) c X
 have LB:=looks_mroIn (M:=model prog w) X c.mb
 have ha:=F.args_bexc_ga (.ref x) (.str "__class__" t)
 have hk:builtinKind "BaseException.__getattribute__"=some .slot:=by decide +kernel
 have hsplit:splitId "BaseException.__getattribute__"=some ("BaseException","__getattribute__"):=by decide +kernel
 have hx2:(Value.builtin "BaseException.__getattribute__"==Value.builtin "object.__getattribute__")=false:=by decide +kernel
 have hx1:(onTheHeap (Value.ref C)&&Value.builtin "BaseException.__getattribute__"==Value.builtin "object.__getattribute__")=false:=by rw [hx2];rfl
 unfold getAttr? getAttrBy? getAttrBy
 refine wpAny_bind (wpAny_mkText (wpAny_bind (wpAny_attempt (wpAny_holding (wpAny_bind (L0.at (wpAny_bind (L1.at ?_))))))))
 dsimp only
 rw [hx1]
 simp only [B2,if_false]
 unfold getAttrByItsOwn hookBefore
 refine wpAny_bind ?_
 show wpAny _ _ (typeLookup (.ref C) "__getattr__") _ _ _
 refine L2.at ?_
 refine wpAny_bind (wpAny_attempt (wpAny_holding ?_))
 unfold callGetattribute boundAndCalled
 simp only [Ks,B2,if_false]
 rw [PySem.F.attr_ValueError.ga.bind (.ref x)]
 refine wpAny_bind (wpAny_pure (wpAny_call (codeAny_call_builtin PySem.F.attr_ValueError.ga.plain F.entry_bexc_ga ?_)))
 simp only [checkBuiltinCall,hk,hsplit]
 refine wpAny_bind ?_
 unfold isInstance
 refine wpAny_bind (L0.at (LB.at ?_))
 wp_step
 unfold Builtin.«object.__getattribute__»
 repeat lk
 refine wpAny_run (XX (s:=⟨hh,g,d,t+1,os⟩) X I c.mo ?_) (by intro z;cases z)
 refine wpAny_pure (wpAny_pure ?_)
 exact handed_on rfl (wpAny_pure h)
theorem XZ (c:EC K C):KitX K (.ref x) (.ref C) (TyAt x C) where
 ty:=fun _ _ _ I=>I.type
 it:=fun _ _ X _=>by
  obtain ⟨cdD,hcD⟩:=qbT.mp c.cl
  unfold clsIn at hcD
  split at hcD
  ·rename_i c' d' cd' sl' ho
   intro A' Q' E' s' k q
   unfold isType loadHead
   exact wpAny_bind (wpAny_loadPart (k _ _ (X _ _ ho)) (wpAny_pure q))
  ·cases hcD
 ne:=fun h tp dd its n sl X htp=>by
  obtain ⟨cdD,hcD⟩:=qbT.mp c.cl
  refine Bool.eq_false_iff.mpr fun q=>?_
  have e:C=tp:=Value.ref.inj (beq_iff_eq.mp q)
  subst e
  unfold clsIn at hcD
  split at hcD
  ·rename_i c' d' cd' sl' ho
   have z:=(X _ _ ho).symm.trans htp
   cases z
  ·cases hcD
 ca:=fun X I k=>XY c X I k
end
def excNames:List Str:=["NoBoard","NoLine","NoSwitching","NoNumber","Unlike","NoNet","NoPlace","NoText","NoRow","TooMany","SwitchError"]
def BK (n n':Str):Bool:=n==n'||n'=="SwitchError"
def N0 (K:Frag) (C:Addr):Bool:=
 findIn K (.ref C) "__getattribute__"==some (some (.builtin "BaseException.__getattribute__"))&&findIn K (.ref C) "__getattr__"==some none&&(clsIn K C).isSome&&
 findIn K (.ref C) "__class__"==some (some (.builtin "object.__class__"))&&specialIn K (.builtin "object.__class__") "__get__"==some (some (.builtin "getset_descriptor.__get__"))&&
 takesIn K (.builtin "object.__class__")==some true&&mroIn K C (.type "object")==some true&&mroIn K C (.type "BaseException")==some true
theorem X0 {K:Frag} {C:Addr} (h:N0 K C=true):EC K C:=by
 unfold N0 at h
 simp only [CP,beq_iff_eq] at h
 obtain ⟨⟨⟨⟨⟨⟨⟨h1,h2⟩,h3⟩,h4⟩,h5⟩,h6⟩,h7⟩,h8⟩:=h
 exact ⟨h1,h2,h3,h4,h5,h6,h7,h8⟩
def E7 (K:Frag) (n:Str):Option Addr:=match nsIn K mainGlobals n with
 |some (some (.ref C))=>some C
 |_=>none
theorem Rx {K:Frag} {n:Str} {C:Addr} (h:E7 K n=some C):nsIn K mainGlobals n=some (some (.ref C)):=by
 unfold E7 at h
 split at h
 ·rename_i e;cases h;exact e
 ·cases h
def N1 (K:Frag) (n:Str) (C S:Addr):Bool:=
 N0 K C&&kitOne K (.ref C) (.type "ValueError")==some true&&(n=="TooMany"||NL K C JL "ValueError.__new__")&&exmOne K (.ref C) (.ref S)==some true&&
  excNames.all fun n'=>match E7 K n' with
   |some C'=>kitOne K (.ref C) (.ref C')==some (BK n n')
   |none=>false
def etOk (K:Frag):Bool:=match E7 K "SwitchError" with
 |some S=>excNames.all fun n=>match E7 K n with
  |some C=>N1 K n C S
  |none=>false
 |none=>false
structure ET (K:Frag) (n:Str) (C:Addr):Prop where
 ec:EC K C
 ve:kitOne K (.ref C) (.type "ValueError")=some true
 at_:n≠"TooMany"→NK K C JL "ValueError.__new__"
 sw:∀S,nsIn K mainGlobals "SwitchError"=some (some (.ref S))→exmOne K (.ref C) (.ref S)=some true
 sub:∀n' C',n'∈excNames→nsIn K mainGlobals n'=some (some (.ref C'))→kitOne K (.ref C) (.ref C')=some (BK n n')
theorem Lx {K:Frag} (h:etOk K=true) {n:Str} {C:Addr} (hn:n∈excNames) (hC:nsIn K mainGlobals n=some (some (.ref C))):ET K n C:=by
 unfold etOk at h
 split at h
 ·rename_i S hS
  have h1:=qaL.mp h n hn
  have e:E7 K n=some C:=by unfold E7;rw [hC]
  rw [e] at h1
  have h1:N1 K n C S=true:=h1
  unfold N1 at h1
  simp only [CP,beq_iff_eq,Bool.or_eq_true] at h1
  obtain ⟨⟨⟨⟨a1,a2⟩,a3⟩,a4⟩,a5⟩:=h1
  refine ⟨X0 a1,a2,fun z=>Xm (a3.resolve_left z),fun S' hS'=>?_,fun n' C' hn' hC'=>?_⟩
  ·have:=Rx hS
   rw [this] at hS'
   cases hS'
   exact a4
  ·have z:=qaL.mp a5 n' hn'
   have e':E7 K n'=some C':=by unfold E7;rw [hC']
   rw [e'] at z
   exact beq_iff_eq.mp z
 ·cases h
section
variable {X:Cx} {E:XK}
theorem Ry {x:Str} {a:Addr} {pos:Pos} (hg:Gl X x) (hn:nsIn X.K mainGlobals x=some (some (.ref a))) (hd:(x==("__debug__":Str))=false:=by decide):Ev X E (.Name x pos) (mC (.glo x)):=
 fun pins s σ H Q I z1_=>by obtain ⟨m,ρ,h,hr,er,p⟩:=z1_;exact (Gw I hg (mg_of I.mod.kin I.mod.glob hn) ⟨.ref a,H,I,rfl,p (.ref a) m H (AQ _) (.refl _) hr (by simp only [rD,DV];exact ⟨a,rfl,hn⟩)⟩ hd)
def IF {α:Type}:Out α→Prop
 |.err _ _ _=>False
 |_=>True
theorem Post.noE {α β:Type} {K:Frag} {R:List Addr→Hp→α→β→Prop} {m:List Addr} {H:Hp} {E E':XK} {Q:β→Hp→Prop} {o:Out α} (n:IF o) (h:Post K R m H E Q o):Post K R m H E' Q o:=by
 cases o with
 |ok a h1=>exact h
 |err C fs h1=>exact False.elim n
 |stuck=>exact h
theorem Rz {f:Value} {F:List D→HD→Out D} (hF:∀ds h,IF (F ds h))
 (hc:∀(pins:List (Addr×Obj)) (s:Shared) (σ:L2.St) (H:Hp) (m:List Addr) (h:HD) (ds:List D) (vs:List V) (us:List Value) (Q:VK),Inv X pins σ H s→HR X.K m h H→DVs X.K m H ds vs→Vals vs us→Post X.K (rD X.K) m H E0 Q (F ds h)→
  wpAny (model X.prog X.w) X.A (call f us) (EP X pins σ Q) X.xe s):Do X f F:=
 ⟨fun vs H Q=>∃m h ds,HR X.K m h H∧DVs X.K m H ds vs∧Post X.K (rD X.K) m H E0 Q (F ds h),fun pins s σ H vs us Q I r z2_=>by obtain ⟨m,h,ds,hr,rd,q⟩:=z2_;exact (hc pins s σ H m h ds vs us Q I hr rd r q),fun m H h E ds vs Q hr rd q=>⟨m,h,ds,hr,rd,Post.noE (hF ds h) q⟩⟩
def AO:D→D→HD→Out D:=fun x y h=>match x with
 |.exc n _=>(match y with
  |.glo n'=>if n∈excNames∧n'∈excNames then .ok (.bl (BK n n')) h else .stuck
  |.ty T=>if n∈excNames∧T="ValueError" then .ok (.bl true) h else .stuck
  |_=>.stuck)
 |.edic=>(match y with
  |.ty T=>(match K7 "dict" T with
   |some b=>.ok (.bl b) h
   |none=>.stuck)
  |_=>.stuck)
 |_=>BH x y h
theorem X1 (pins:List (Addr×Obj)) (s:Shared) (σ:L2.St) (H:Hp) (m:List Addr) (h:HD) (x y:D) (v v':V) (u u':Value) (Q:VK) (I:Inv X pins σ H s) (hr:HR X.K m h H) (rx:DV X.K m H x v) (ry:DV X.K m H y v') (r:RelV v u) (r':RelV v' u')
 (q:Post X.K (rD X.K) m H E0 Q (BH x y h)):wpAny (model X.prog X.w) X.A (call (.builtin "isinstance") [u,u']) (EP X pins σ Q) X.xe s:=by
 unfold BH at q
 split at q
 ·rename_i T t et
  split at q
  ·rename_i b eb
   simp only [DV] at ry
   subst ry
   cases (show u'=Value.type T from r')
   exact Vx I r (WM hr rx et) (Qv eb) fun tk=>⟨.bl b,H,I.tok _,rfl,Bo hr q (by simp [DV])⟩
  ·exact q.elim
 ·exact q.elim
theorem Ce (et:etOk X.K=true):Do X (.builtin "isinstance") (Bd AO):=by
 refine Rz (fun ds h=>?_) fun pins s σ H m h ds vs us Q I hr rd r q=>K0 rd q fun x y v v' ev rx ry q=>?_
 ·unfold Bd AO BH
  repeat' split
  all_goals trivial
 ·subst ev
  obtain ⟨u,u',rfl,r1,r2⟩:=KC r
  unfold AO at q
  split at q
  ·rename_i n fs
   simp only [DV] at rx
   obtain ⟨a,C,da,rfl,hC,ha,_⟩:=rx
   cases (show u=Value.ref a from r1)
   obtain ⟨⟨o,ws,ho,hcl,hdi,hdat⟩,_⟩:=(show ObjOk X.prog X.w H s.heap a (.ext (FY C da a)) from I.hok a _ ha)
   have key:∀(c:Value) (b:Bool),EC X.K C→kitOne X.K (.ref C) c=some b→Q (.bl b) H→wpAny (model X.prog X.w) X.A (call (.builtin "isinstance") [.ref a,c]) (EP X pins σ Q) X.xe s:=by
    intro c b ec e q
    exact kia_one (XZ ec) I.kIn ⟨o,ho,hcl⟩ e (fun z=>nomatch z) fun tk=>⟨.bl b,H,I.tok _,rfl,q⟩
   split at q
   ·rename_i n'
    split at q
    ·rename_i hn
     simp only [DV] at ry
     obtain ⟨C',rfl,hC'⟩:=ry
     cases (show u'=Value.ref C' from r2)
     have t:=Lx et hn.1 hC
     exact key _ _ t.ec (t.sub n' C' hn.2 hC') (Bo hr q (by simp [DV]))
    ·exact q.elim
   ·rename_i T
    split at q
    ·rename_i hn
     simp only [DV] at ry
     subst ry
     cases (show u'=Value.type T from r2)
     obtain ⟨hn,rfl⟩:=hn
     have t:=Lx et hn hC
     exact key _ _ t.ec t.ve (Bo hr q (by simp [DV]))
    ·exact q.elim
   ·exact q.elim
  ·split at q
   ·rename_i T
    split at q
    ·rename_i b eb
     simp only [DV] at rx ry
     obtain ⟨a,rfl,ha⟩:=rx
     subst ry
     cases (show u=Value.ref a from r1)
     cases (show u'=Value.type T from r2)
     obtain ⟨⟨_,o,ep,ho,hx,hd⟩,_⟩:=(show ObjOk X.prog X.w H s.heap a (.ext (Nd a)) from I.hok a _ ha)
     exact kia_one kitx_dict I.kIn ⟨o,ho,hx.1⟩ (Qv eb) (fun z=>nomatch z) fun tk=>⟨.bl b,H,I.tok _,rfl,Bo hr q (by simp [DV])⟩
    ·exact q.elim
   ·exact q.elim
  ·exact X1 pins s σ H m h x y v v' u u' Q I hr rx ry r1 r2 q
end
section
variable {X:Cx} {E:XK}
def IG (chk:D→HD→Out D) (op:D→D→HD→Out D) (f g:ME):ME:=fun ρ h=>((f ρ h).bind chk).bind fun x h1=>(g ρ h1).bind fun y h2=>op x y h2
def RA (X:Cx) (T:String) (x:V) (H:Hp):Prop:=∀(pins:List (Addr×Obj)) (σ:L2.St) (s:Shared) (u:Value),Inv X pins σ H s→RelV x u→s.TypeIs u T∧∀a,u=.ref a→∃ob,s.heap.get? a=some ob∧ob.dict=none
def X2 (X:Cx) (T:String) (r:V→List V→Hp→VK→Prop) (to:TE) (t:TA):TE:=fun σ H Q=>to σ H fun x H1=>RA X T x H1∧t σ H1 fun xs H2=>r x xs H2 Q
theorem X3 {o e:Expr} {es:List Expr} {to:TE} {t:TA} {name:Str} {apos cpos:Pos} {T id:String} {r:V→List V→Hp→VK→Prop} (pa:PlainAttrs T) (slot:Slot T name id) (hty:typeOf (.builtin id)=pure (.type "method_descriptor")) (hm:M9 X id r) (ho:PE X o to) (ha:PA X (e::es) t)
 (hbase:attributeBase o name X.env (eval o X.env)=eval o X.env:=by rfl)
 (hfew:((backTo cpos (starEach (e::es) X.env)).all (fun x=>!x.1)&&(backToKw cpos (keywordEach [] X.env)).all (fun x=>x.1.isSome)
  &&decide ((e::es).length+([]:List Keyword).length+(if ([]:List Keyword).isEmpty then 0 else 1)<30))=true:=by rfl)
 (hline:(apos.endLine==cpos.line)=true:=by rfl) (hs:starEach (e::es) X.env=(false,eval e X.env)::starEach es X.env:=by rfl) (hplain:(backTo cpos (starEach es X.env)).any (·.1)=false:=by rfl):
 PE X (.Call (.Attribute o name apos) (e::es) [] cpos) (X2 X T r to t):=by
 intro pins s σ H Q I h
 refine wpAny_Call_method_late hbase hfew hline rfl (Ax (ho pins s σ H _ I h) fun v s1 z1_=>?_)
 obtain ⟨x,H1,I1,r1,ty,q1⟩:=z1_
 obtain ⟨h1,h2⟩:=ty pins σ s1 v I1 r1
 refine ⟨T,id,pa,slot,hty,h1,h2,?_⟩
 have hA:=ha cpos pins s1 σ H1 _ I1 q1
 rw [hs] at hA ⊢
 refine Calls.callWith_builtin (by show (false||(backTo cpos (starEach es X.env)).any (·.1))=false;rw [hplain]<;>rfl) (Calls.evalArgs_plain ?_)
 exact Ax hA fun us s2 z2_=>by obtain ⟨vs,H2,I2,r2,q2⟩:=z2_;exact (hm pins s2 σ H2 x vs v us Q I2 r1 r2 q2)
structure RB (X:Cx) (T:String) (chk:D→HD→Out D):Prop where
 two:∀x h,chk x h=.ok x h∨chk x h=.stuck
 ty:∀m H h x v,HR X.K m h H→DV X.K m H x v→chk x h=.ok x h→RA X T v H
def N2 (X:Cx) (id:String) (op:D→D→HD→Out D):Prop:=
 ∀(pins:List (Addr×Obj)) (s:Shared) (σ:L2.St) (H:Hp) (m:List Addr) (h:HD) (x y:D) (v yv:V) (u uy:Value) (Q:VK),Inv X pins σ H s→HR X.K m h H→DV X.K m H x v→DV X.K m H y yv→RelV v u→RelV yv uy→Post X.K (rD X.K) m H E0 Q (op x y h)→
  wpAny (model X.prog X.w) X.A (call (.builtin id) [u,uy]) (EP X pins σ Q) X.xe s
theorem RC {o e:Expr} {f g:ME} {name:Str} {T id:String} {chk:D→HD→Out D} {op:D→D→HD→Out D} {apos cpos:Pos} (pa:PlainAttrs T) (slot:Slot T name id) (hty:typeOf (.builtin id)=pure (.type "method_descriptor"))
 (hc:RB X T chk) (hn:∀x y h,IF (op x y h)) (hm:N2 X id op) (ho:Ev X E o f) (he:Ev X E e g)
 (hbase:attributeBase o name X.env (eval o X.env)=eval o X.env:=by rfl)
 (hfew:((backTo cpos (starEach [e] X.env)).all (fun x=>!x.1)&&(backToKw cpos (keywordEach [] X.env)).all (fun x=>x.1.isSome)
  &&decide ([e].length+([]:List Keyword).length+(if ([]:List Keyword).isEmpty then 0 else 1)<30))=true:=by rfl)
 (hline:(apos.endLine==cpos.line)=true:=by rfl) (hs:starEach [e] X.env=(false,eval e X.env)::starEach [] X.env:=by rfl) (hplain:(backTo cpos (starEach [] X.env)).any (·.1)=false:=by rfl):
 Ev X E (.Call (.Attribute o name apos) [e] [] cpos) (IG chk op f g):=by
 have hr:M9 X id (fun v vs H Q=>∃m h x y yv,vs=[yv]∧HR X.K m h H∧DV X.K m H x v∧DV X.K m H y yv∧Post X.K (rD X.K) m H E0 Q (op x y h)):=by
  rintro pins s σ H v vs u us Q I r rs ⟨m,h,x,y,yv,ev,hr,rx,ry,q⟩
  subst ev
  obtain ⟨uy,rfl,r2⟩:=DY rs
  exact hm pins s σ H m h x y v yv u uy Q I hr rx ry r r2 q
 refine BW (X3 pa slot hty hr ho (Ac he Af hs) hbase hfew hline hs hplain) fun σ H Q z3_=>?_
 obtain ⟨m,ρ,h,hr,er,p⟩:=z3_
 refine ⟨m,ρ,h,hr,er,?_⟩
 unfold IG at p
 rw [Out.bind_assoc] at p
 refine Post.bind p fun x h1 v m1 H1 eo p1 k1 hr1 r1 q1=>?_
 clear eo
 rcases hc.two x h1 with ec |ec
 ·rw [ec] at q1
  simp only [Out.bind_ok] at q1
  refine ⟨hc.ty m1 H1 h1 x v hr1 r1 ec,m1,ρ,h1,hr1,er.keep p1 k1,?_⟩
  have q2:Post X.K (rD X.K) m1 H1 E Q ((Aa g Ad ρ h1).bind fun ys h2=>match ys with
   |[y]=>op x y h2
   |_=>.stuck):=by
   unfold Aa Ad
   rw [Out.bind_assoc]
   exact q1
  refine Post.bind q2 fun ys h2 vs m2 H2 eo p2 k2 hr2 r2 q3=>?_
  clear eo
  split at q3
  ·rename_i y
   simp only [EV,DVs] at r2
   obtain ⟨yv,w,rfl,ry,rfl⟩:=r2
   exact ⟨m2,h2,x,y,yv,rfl,hr2,DV.keep p2 k2 r1,ry,Post.noE (hn x y h2) q3⟩
  ·exact q3.elim
 ·rw [ec] at q1
  exact q1.elim
theorem N3:RB X "list" Df where
 two:=fun x h=>by
  unfold Df
  split
  ·split
   ·exact .inl rfl
   ·exact .inr rfl
  ·exact .inr rfl
 ty:=fun m H h x v hr r e=>by
  unfold Df at e
  split at e
  ·rename_i l
   split at e
   ·rename_i ds el
    simp only [DV] at r
    obtain ⟨a,rfl,ha⟩:=r
    obtain ⟨ws,hv,dv⟩:=hr.cells l _ a el ha
    exact fun pins σ s u I ru=>PU I ru (.inl ⟨rfl,ws,SqL.of hv⟩)
   ·cases e
  ·cases e
def IH (x:V) (xs:List V):Nat:=xs.countP fun y=>Ei y x
theorem RD {x:V}:∀{xs:List V} {us:List Value},Vals xs us→xs.all D0=true→us.countP (Dy x)=IH x xs
 |_,_,.nil,_=>rfl
 |y::xs,u::us,.cons r t,f=>by
  rw [List.all_cons,CP] at f
  unfold IH
  rw [List.countP_cons,List.countP_cons,KI r f.1,RD t f.2]
  rfl
def II:D→D→HD→Out D:=fun x y h=>match BA x h with
 |none=>.stuck
 |some ds=>match CT y,AV (ds.map CT) with
  |some v,some vs=>.ok (.int (IH v vs)) h
  |_,_=>.stuck
theorem X4 (x y:D) (h:HD):IF (II x y h):=by
 unfold II
 repeat' split
 all_goals trivial
def GQ:D→D→HD→Out D:=fun x y h=>(Df x h).bind fun _ _=>II x y h
theorem X5:N2 X "list.count" GQ:=by
 intro pins s σ H m h x y v yv u uy Q I hr rx ry r r2 q
 unfold GQ at q
 rcases (N3 (X:=X)).two x h with ec |ec
 ·rw [ec] at q
  simp only [Out.bind_ok] at q
  unfold Df at ec
  split at ec
  ·rename_i l
   split at ec
   ·rename_i ds el
    unfold II BA at q
    simp only [el] at q
    split at q
    ·rename_i w ws e1 e2
     simp only [DV] at rx
     obtain ⟨a,rfl,ha⟩:=rx
     cases (show u=Value.ref a from r)
     obtain ⟨vs,hv,dv⟩:=hr.cells l _ a el ha
     obtain ⟨h1,h2⟩:=KW ry e1
     obtain ⟨h3,h4⟩:=KY dv e2
     subst h1 h3
     obtain ⟨z,its,n,rr,hl,e⟩:=I.lstM hv
     refine call_meets F.slot_list_count ⟨_,e,rfl⟩ F.entry_list_count (F.args_list_count_2 _ _) (PySem.SeqAt.list_countAt a its.toArray n none #[] uy (Dy yv)) ⟨e,fun w hw=>Ji r2 h2 rr h4 w (by simpa using hw),?_⟩
     refine ⟨.int _,H,I.tok _,⟨_,rfl⟩,?_⟩
     rw [show (its.toArray.toList.countP (Dy yv))=IH yv vs by rw [←RD rr h4]]
     exact Bo hr q (by simp [DV])
    ·exact q.elim
   ·cases ec
  ·cases ec
 ·rw [ec] at q;exact q.elim
def Ly (x:V) (xs:List V):Option Nat:=xs.findIdx? fun y=>Ei y x
def GR:D→D→HD→Out D:=fun x y h=>match x with
 |.loc l=>(match h[l]? with
  |some (.lst ds)=>(match CT y,AV (ds.map CT) with
   |some v,some vs=>(match Ly v vs with
    |some j=>.ok (.int j) h
    |none=>.stuck)
   |_,_=>.stuck)
  |_=>.stuck)
 |_=>.stuck
theorem X6 (x y:D) (h:HD):IF (GR x y h):=by
 unfold GR
 repeat' split
 all_goals trivial
theorem X7 (x y:D) (h:HD):IF (GQ x y h):=by
 unfold GQ
 rcases (show Df x h=.ok x h∨Df x h=.stuck by
  unfold Df
  split
  ·split
   ·exact .inl rfl
   ·exact .inr rfl
  ·exact .inr rfl) with e |e
 ·rw [e];exact X4 x y h
 ·rw [e];trivial
theorem RE {xs:List V} {us:List Value} (r:Vals xs us) {x:V} (f:xs.all D0=true) {j:Nat} (hj:j<us.length):Dy x us[j]=Ei (xs[j]'(by rw [r.length];exact hj)) x:=by
 have hx:j<xs.length:=by rw [r.length];exact hj
 obtain ⟨u,e,ru⟩:=r.get (Bb hx)
 rw [Bb hj] at e
 cases e
 exact KI ru (qaL.mp f _ (Gq hx))
theorem X8:N2 X "list.index" GR:=by
 intro pins s σ H m h x y v yv u uy Q I hr rx ry r r2 q
 unfold GR at q
 split at q
 ·rename_i l
  split at q
  ·rename_i ds el
   split at q
   ·rename_i w ws e1 e2
    split at q
    ·rename_i j ej
     simp only [DV] at rx
     obtain ⟨a,rfl,ha⟩:=rx
     cases (show u=Value.ref a from r)
     obtain ⟨vs,hv,dv⟩:=hr.cells l _ a el ha
     obtain ⟨h1,h2⟩:=KW ry e1
     obtain ⟨h3,h4⟩:=KY dv e2
     subst h1 h3
     obtain ⟨z,its,n,rr,hl,e⟩:=I.lstM hv
     unfold Ly at ej
     rw [List.findIdx?_eq_some_iff_getElem] at ej
     obtain ⟨hj,hit,hno⟩:=ej
     have hji:j<its.length:=by rw [←hl];exact hj
     have hsl:(j:Int)<2^63 - 1:=by have:=HM;omega
     refine call_meets F.slot_list_index ⟨_,e,rfl⟩ F.entry_list_index (F.args_list_index_2 _ _) (PySem.SeqAt.list_indexAt a its.toArray n none #[] uy (Dy yv) j (by simpa using hji) hsl ?_ ?_) ⟨e,fun w hw=>Ji r2 h2 rr h4 w (by simpa using hw),?_⟩
     ·have:=RE rr h4 (x:=yv) hji
      simp only [List.getElem_toArray]
      rw [this];exact hit
     ·intro k hk hkj
      have hk':k<its.length:=by simpa using hk
      have:=RE rr h4 (x:=yv) hk'
      simp only [List.getElem_toArray]
      rw [this]
      simpa using hno k hkj
     ·exact ⟨.int _,H,I.tok _,⟨_,rfl⟩,Bo hr q (by simp [DV])⟩
    ·exact q.elim
   ·exact q.elim
  ·exact q.elim
 ·exact q.elim
end
theorem X9 {pos:Pos} {l r:List Value} {cv:Value} (_:TriplesOk l) (e:codeAmong pos l=some cv):codeAmong pos (l++r)=some cv:=by
 rename_i ht
 clear ht
 fun_induction codeAmong pos l with
 |case1 line t col u c rest h=>rw [FS,FS,FS,codeAmong,if_pos h];exact e
 |case2 line t col u c rest h ih=>rw [FS,FS,FS,codeAmong,if_neg h];exact ih e
 |case3=>cases e
theorem RF {pos p2:Pos} {c cv:Value}:∀{l:List Value},TriplesOk l→codeAmong p2 (l++[rawInt pos.line,rawInt pos.col,c])=some cv→codeAmong p2 l=some cv∨cv=c
 |[],_,e=>by
  simp only [Kr,rawInt,codeAmong] at e
  split at e
  ·exact .inr (Option.some.inj e).symm
  ·cases e
 |.int i t::.int j u::c'::l,h,e=>by
  simp only [codeAmong,FS] at e ⊢
  split at e
  ·rename_i z
   rw [if_pos z];exact .inl e
  ·rename_i z
   rw [if_neg z];exact RF (by simpa [TriplesOk] using h) e
theorem HR.tab {K:Frag} {m:List Addr} {h:HD} {H H':Hp} {P:Addr} (r:HR K m h H) (k:Kp H H') (s:∀b,b≠P→H b≠none→H' b=H b) (t:TabIs K H' P) (tt:TabIs K H P):HR K m h H':=by
 refine ⟨r.len,r.nd,fun l c a e q=>?_⟩
 have hm:a∈m:=Gn q
 have hn:H a≠none:=r.mem hm
 have:=r.cells l c a e q
 cases c with
 |lst ds=>
  obtain ⟨vs,e1,e2⟩:=this
  have ha:a≠P:=by
   rintro rfl
   obtain ⟨_,ps,z,_⟩:=tt
   rw [z] at e1;cases e1
  exact ⟨vs,by rw [s a ha hn];exact e1,e2.keep (AQ _) k⟩
 |tab=>
  by_cases ha:a=P
  ·subst ha;exact t
  ·exact TabIs.keep this k (s a ha hn)
structure LamX (X:Cx) (c P:Addr):Prop where
 code:X.env.code=.ref c
 tp:tabP X.K=some (c,P)
 hd:codeHdIn X.K c P=true
 qual:X.env.qual="law.<locals>."
 bm:∃bm o,X.mg "__builtins__"=some (.ref bm)∧bm≠builtinsNs∧X.base.get? bm=some o∧o.cls=.type "module"∧o.dict=some builtinsNs∧o.data=.plain
section
variable {X:Cx} {E:Value→Shared→Prop} {c P:Addr} {pins:List (Addr×Obj)} {σ:L2.St} {H:Hp} {s:Shared}
theorem LamX.builtins (L:LamX X c P) (I:Inv X pins σ H s) (t:TabIs X.K H P):s.heap.BuiltinsAt X.mg P:=by
 obtain ⟨bm,o,h1,h2,h3,h4,h5,h6⟩:=L.bm
 obtain ⟨e,n⟩:=I.bs bm o h3
 refine ⟨bm,o,h1,h2,fun z=>?_,fun z=>?_,e,h4,h5,h6⟩
 ·obtain ⟨og,es,ep,e1,e2,_⟩:=I.mod.glob
  rw [z,e1] at h3
  cases h3
  rw [e2] at h6;cases h6
 ·obtain ⟨_,ps,q,_⟩:=t
  rw [z,q] at n;cases n
abbrev BB:Str:="law.<locals>.<lambda>"
theorem Yb {params:Arguments} {body:Expr} {scope:Scope} {pos:Pos} {clos:List (Str×Addr)} {Q:Value→Shared→Prop} {A:Around} (L:LamX X c P) (I:Inv X pins σ H s) (t:TabIs X.K H P) (hdef:defaultsOf params X.env=([],[])) (hcl:closureFor scope X.env=pure clos)
 (k:∀(f' c':Addr) (ctv pm:Value) (h':Heap) (tk:Nat) (H':Hp),Inv X pins σ H' {s with heap:=h',toks:=tk}→Kp H H'→TabIs X.K H' P→(∀b,b≠P→H b≠none→H' b=H b)→(∀b o,b≠P→s.heap.get? b=some o→h'.get? b=some o)→s.heap.objs.size≤f'→
  H' f'=none→h'.get? f'=some (kla_obj "<lambda>" BB params body scope clos pm c' ctv)→(∃ps,H' P=some (.tbl ps)∧codeAmong pos ps.toList=some (.ref c'))→Q (.ref f') {s with heap:=h',toks:=tk}):
 wpAny (model X.prog X.w) A (eval (.Lambda params body scope pos) X.env) Q E s:=by
 have hB:=L.builtins I t
 have hg:s.heap.Ns mainGlobals X.mg:=I.mod.glob.keeps I.bk
 have hCd:CodeHd s.heap c P:=codeHd_of_K I.kIn L.hd
 obtain ⟨ht1,ps,hps,htr,hcs⟩:=id t
 have hP:s.heap.get? P=some (tabObj ps):=I.hok P _ hps
 have hgP:mainGlobals≠P:=fun z=>by
  obtain ⟨og,es,ep,e1,e2,_⟩:=I.mod.glob
  have:=(I.bs _ _ e1).2
  rw [z,hps] at this;cases this
 have hq:X.env.qual++"<lambda>"=BB:=by rw [L.qual];decide +kernel
 refine kla_eval hdef ?_
 rw [hq]
 cases hc:codeAmong pos ps.toList with
 |some cv=>
  obtain ⟨c',rfl,hx⟩:=hcs pos cv hc
  refine kla_makeFunctionHit (mg:=X.mg) hcl I.ok.glob hg L.code hCd hP htr hc hB fun ctv h' tk hk hsz=>?_
  have hk2:∀b o,s.heap.get? b=some o→(h'.push (kla_obj "<lambda>" BB params body scope clos ((X.mg "__name__").getD .none) c' ctv)).get? b=some o:=fun b o e=>AB _ (hk b o e)
  exact k _ c' ctv _ _ tk H (I.kept hk2) (.refl _) t (fun _ _ _=>rfl) (fun b o _ e=>hk2 b o e) hsz (I.hok.fresh hsz) (A7 _ rfl) ⟨ps,hps,hc⟩
 |none=>
  refine kla_makeFunction (mg:=X.mg) hcl I.ok.glob hg L.code hCd hP htr hc hgP hB fun c' ctv h' tk hx hge hlt hrec htb=>?_
  generalize ho:kla_obj "<lambda>" BB params body scope clos ((X.mg "__name__").getD .none) c' ctv=fo
  have hk2:∀b o,b≠P→s.heap.get? b=some o→(h'.push fo).get? b=some o:=fun b o hb e=>AB _ (hx b o hb e)
  have hPs:P<s.heap.objs.size:=AE hP
  have hc'P:c'≠P:=Gb (A0 hPs hge)
  have hc'n:H c'=none:=I.hok.fresh hge
  generalize hps':ps++#[rawInt pos.line,rawInt pos.col,.ref c']=ps' at htb
  have tl:ps'.toList=ps.toList++[rawInt pos.line,rawInt pos.col,.ref c']:=by rw [←hps'];simp
  have hH:∀b,b≠P→H b≠none→Ao (Ao H P (.tbl ps')) c' (.ext (HQ BB c')) b=H b:=fun b hb hn=>by
   have:b≠c':=fun z=>hn (z ▸ hc'n)
   rw [Au this,Au hb]
  have hHP:Ao (Ao H P (.tbl ps')) c' (.ext (HQ BB c')) P=some (.tbl ps'):=by rw [Au (Ne.symm hc'P),B3]
  have kp:Kp H (Ao (Ao H P (.tbl ps')) c' (.ext (HQ BB c'))):=fun b o e i=>by
   have:b≠P:=fun z=>by rw [z,hps] at e;cases e;cases i
   rw [hH b this (by rw [e];simp)];exact e
  have lt':∀b o,s.heap.get? b=some o→b≠c':=fun b o e=>BM (A0 (AE e) hge)
  have un:Un X.fs [] H (Ao (Ao H P (.tbl ps')) c' (.ext (HQ BB c'))) s.heap (h'.push fo):=by
   have neP:∀{b},H b=none→b≠P:=fun {b} n z=>by rw [z,hps] at n;cases n
   refine ⟨fun b o e n _ _=>hk2 b o (neP n) e,fun b o e n _ _=>⟨o.slots,hk2 b o (neP n) e⟩,fun b o e n _=>?_,fun b o e _=>?_,fun b xs e=>?_,fun b o u e=>?_,fun b qs e=>?_⟩
   ·rw [Au (lt' b o e),Au (neP n)];exact n
   ·by_cases hb:b=P
    ·subst hb;exact ⟨_,AB _ htb⟩
    ·exact ⟨o,hk2 b o hb e⟩
   ·rw [hH b (fun z=>by rw [z,hps] at e;cases e) (by rw [e];simp)];exact e
   ·rw [hH b (fun z=>by rw [z,hps] at e;cases e) (by rw [e];simp)];exact e
   ·by_cases hb:b=P
    ·subst hb
     rw [hps] at e;cases e
     exact ⟨_,by rw [hHP,←hps']⟩
    ·exact ⟨#[],by rw [hH b hb (by rw [e];simp),e];simp⟩
  have hok:HOk X.prog X.w (Ao (Ao H P (.tbl ps')) c' (.ext (HQ BB c'))) (h'.push fo):=by
   intro b o e
   by_cases hb:b=c'
   ·subst hb
    rw [B3] at e
    cases e
    have r1:(h'.push fo).CodeRec (.ref b) BB:=hrec.keeps fun b o e=>AB _ e
    refine ⟨r1,?_,fun h1 h2 z1 z2=>?_⟩
    ·obtain ⟨c2,oc,vs,t2,e1,e2,_⟩:=r1
     cases e1
     exact ⟨oc,e2⟩
    ·obtain ⟨c2,oc,vs,t2,e1,e2,e3⟩:=z1
     cases e1
     exact ⟨_,oc,vs,t2,rfl,z2 _ e2,e3⟩
   ·by_cases hbP:b=P
    ·subst hbP
     rw [hHP] at e
     cases e
     exact AB _ htb
    ·rw [Au hb,Au hbP] at e
     refine (I.hok b o e).stay (fun d u hd q=>hk2 d u ?_ q) (fun d q=>?_) fun d xs q=>?_
     ·rcases hd with rfl |hd
      ·exact hbP
      ·exact fun z=>by rw [z,hps] at hd;cases hd
     ·rw [hH d (fun z=>by rw [z,hps] at q;cases q) (by rw [q];simp)];exact q
     ·rw [hH d (fun z=>by rw [z,hps] at q;cases q) (by rw [q];simp)];exact q
  have hsz:s.heap.objs.size≤h'.objs.size:=Ft (Nat.lt_of_le_of_lt hge hlt)
  refine k _ c' ctv ((X.mg "__name__").getD .none) _ tk _ (I.un un hok) kp ⟨ht1,ps',hHP,?_,fun p2 cv e=>?_⟩ hH hk2 hsz ?_ (by rw [←ho];exact A7 _ rfl) ⟨ps',hHP,?_⟩
  ·rw [tl];exact TriplesOk_snoc _ _ _ _ htr
  ·rw [tl] at e
   rcases RF htr e with z |z
   ·obtain ⟨c2,z1,z2⟩:=hcs p2 cv z
    exact ⟨c2,z1,kp _ _ z2 rfl⟩
   ·exact ⟨c',z,B3⟩
  ·have n1:h'.objs.size≠c':=Gb hlt
   have n2:h'.objs.size≠P:=Gb (A0 hPs hsz)
   rw [Au n1,Au n2];exact I.hok.fresh hsz
  ·rw [tl];exact codeAmong_snoc _ htr hc
end
def FJ (P:Program) (w:World) (K:Frag) (mg:Str→Option Value) (base:Heap) (N:List Str) (scope:Scope) (a:Addr) (cd:Value) (cl:List (Str×Addr)) (A:Around) (outer:List Env) (s:Shared) (H:Hp) (E:XK):Cx where
 prog:=P
 w:=w
 K:=K
 mg:=mg
 base:=base
 A:=A.deeper (envX BB scope s.heap.objs.size a cd cl)
 N:=N
 s₀:=s
 H₀:=H
 env:=envX BB scope s.heap.objs.size a cd cl
 outer:=outer
 stack:=envX BB scope s.heap.objs.size a cd cl::outer
 ex:=[]
 calm:=true
 fn:=fun _=>false
 pn:=[]
 xe:=fun e s'=>wpAny (model P w) (A.deeper (envX BB scope s.heap.objs.size a cd cl)) (leaving (envX BB scope s.heap.objs.size a cd cl) e) (fun _ s''=>As P w K outer H s E e s'') (fun e' s''=>As P w K outer H s E e' s'') s'
theorem Yc {P:Program} {w:World} {K:Frag} {mg:Str→Option Value} {base:Heap} {N:List Str} {scope:Scope} {a:Addr} {cd:Value} {cl:List (Str×Addr)} {A:Around} {outer:List Env} {s:Shared} {H:Hp} {E:XK}:
 Lv (FJ P w K mg base N scope a cd cl A outer s H E) E:=⟨fun _ _ h=>h,rfl,rfl,rfl⟩
theorem N4 {P:Program} {w:World} {K:Frag} {mg:Str→Option Value} {base:Heap} {N:List Str} {scope:Scope} {a:Addr} {cd:Value} {cl:List (Str×Addr)} {A:Around} {outer:List Env} {s:Shared} {H:Hp} {E:XK}:
 EU (As P w K) (FJ P w K mg base N scope a cd cl A outer s H E) E:=NJ Yc
structure JR (h:Heap) (H:Hp) (outer:List Env) (N:List Str) (scope:Scope) (cl:List (Str×Addr)) (vs:List V):Prop where
 len:vs.length=N.length
 inj:∀x y c,cl.lookup x=some c→cl.lookup y=some c→x=y
 has:∀x,scope.names.lookup x=some .free→∃c,cl.lookup x=some c
 cell:∀x c,cl.lookup x=some c→(∃v,h.IsCell c v)∧H c=none∧c∉frs outer
 val:∀(i:Nat) (x:Str) (v:V),N[i]?=some x→vs[i]?=some v→scope.names.lookup x=some .free∧∃c u,cl.lookup x=some c∧h.IsCell c (some u)∧RelV v u
structure LamSc (scope:Scope):Prop where
 kind:scope.kind=.function
 co:scope.isCoroutine=false
 gen:scope.isGenerator=false
 only:(scope.names.all fun y=>y.2 != .cell)=true
theorem LamSc.nocell {scope:Scope} (S:LamSc scope):∀x∈scope.names,x.2≠.cell:=fun x hx e=>by
 have:=qaL.mp S.only x hx
 rw [e] at this
 simp at this
section
variable {P:Program} {w:World} {K:Frag} {mg:Str→Option Value} {base:Heap} {N:List Str} {scope:Scope} {a c':Addr} {pm ctv:Value} {params:Arguments} {body:Expr} {cl:List (Str×Addr)} {A:Around} {outer:List Env} {s:Shared} {H:Hp} {E:XK} {vs:List V}
theorem Yd {cd:Value} {h1:Heap} {t1:Nat} (S:LamSc scope) (hd:A.handled=none) (e0:FW P w K mg base A outer s H) (C:JR s.heap H outer N scope cl vs) (ns:h1.Ns s.heap.objs.size (fun _=>none)) (hk:∀b o,s.heap.get? b=some o→h1.get? b=some o):
 Inv (FJ P w K mg base N scope a cd cl A outer s H E) [] (vs.map some) H {s with heap:=h1,toks:=t1}:=by
 have noA:∀b:Addr,b∉(FJ P w K mg base N scope a cd cl A outer s H E).ex:=fun b z=>absurd (show b∈([]:List Addr) from z) (by simp)
 refine ⟨⟨e0.mod,S.kind,rfl,rfl,AF _,C.inj,fun x hx=>?_,fun x c hf=>(by cases hf),fun _=>hd,Around.frames_deeper e0.frames,.inr ⟨rfl,rfl⟩,fun b z=>absurd z (noA b),e0.bs,e0.bsz,fun b _ _=>noA b,fun b z=>absurd z (noA b),e0.funs,e0.frf⟩,
  rfl,e0.bare,Un.kept hk,⟨_,ns,fun i x v e1 e2 _=>?_⟩,fun x c e=>?_,e0.hok.fresh (AF _),fun x c e=>(C.cell x c e).2.1,fun p hp=>absurd (show p∈([]:List (Addr×Obj)) from hp) (by simp),e0.hok.kept hk,?_⟩
 ·have hx':scope.names.lookup x=some .cell∨scope.names.lookup x=some .free:=hx
  rcases hx' with z |z
  ·exact absurd rfl (S.nocell _ (mem_of_lookup z))
  ·exact C.has x z
 ·rw [Ck] at e2
  cases ev:vs[i]? with
  |none=>rw [ev] at e2;cases e2
  |some v'=>
   rw [ev] at e2
   cases e2
   obtain ⟨hf,c,u,e3,e4,r⟩:=C.val i x v e1 ev
   exact ⟨u,r,.inr ⟨.inr hf,c,e3,e4.keeps hk⟩⟩
 ·obtain ⟨⟨v,q⟩,_⟩:=C.cell x c e
  exact ⟨v,q.keeps hk⟩
 ·show (vs.map some).length=N.length
  rw [CA];exact C.len
theorem Ye {k:Nat} {f:ME} {Q:VK} (S:LamSc scope) (hr:Room (k+1) A) (e0:FW P w K mg base A outer s H) (C:JR s.heap H outer N scope cl vs) (ho:s.heap.get? a=some (kla_obj "<lambda>" BB params body scope cl pm c' ctv)) (hcd:s.heap.CodeRec (.ref c') BB)
 (hbind:bindArgs (kla_fn "<lambda>" BB params body scope cl pm (.ref c') ctv) ⟨[],[]⟩=pure [])
 (hb:Room k (A.deeper (envX BB scope s.heap.objs.size a (.ref c') cl))→Ev (FJ P w K mg base N scope a (.ref c') cl A outer s H E) E body f)
 (q:∃m ds h,HR K m h H∧DVs K m H ds vs∧Post K (rD K) m H E Q (f (ds.map some) h)):codeAny (model P w) A (.call (.ref a) ⟨[],[]⟩) (CR (As P w K) outer P w H s Q E) s:=by
 refine kla_callFunE hr.depth ho rfl S.co S.gen rfl hcd ?_
 rw [hbind]
 have lim:s.heap.NoLimit:=e0.mod.nolimit.keeps fun b o e=>(e0.bs b o e).1
 refine wpAny_pure (wpAny_newFunctionEnv S.nocell (fun y hy=>by cases hy) (fun h₁ hns hsb=>⟨lim.fresh _ hsb,?_⟩) S.kind)
 have hk₁:∀b o,s.heap.get? b=some o→h₁.get? b=some o:=fun b o e=>hsb.extBut b o (Bg (AE e)) (AB _ e)
 have I:Inv (FJ P w K mg base N scope a (.ref c') cl A outer s H E) [] (vs.map some) H {s with heap:=h₁,toks:=s.toks+0}:=Yd S hr.hd e0 C hns hk₁
 obtain ⟨m,ds,h,hr1,r,p⟩:=q
 have er:ER K m H (ds.map some) (vs.map some):=by
  refine ⟨by simp [r.len],fun i d e=>?_⟩
  rw [Ck] at e
  cases ed:ds[i]? with
  |none=>rw [ed] at e;cases e
  |some d'=>
   rw [ed] at e
   cases e
   obtain ⟨v,e1,r1⟩:=r.get ed
   exact ⟨v,by rw [Ck,e1];rfl,r1⟩
 refine kla_codeExpr (wpAny_mono (hb (hr.deeper _) [] _ _ H Q I ⟨m,ds.map some,h,hr1,er,p⟩) (fun u s' hs=>?_) fun e s' hs=>hs)
 obtain ⟨v,H',J,rv,qv⟩:=hs
 exact ⟨v,H',J.os,J.bare,J.base,J.hok,rv,qv⟩
end
structure RoomM (k:Nat) (A:Around):Prop where
 dp:A.depth+3*k+5<recursionLimit
 un:A.units+16*k+200<cLine
 gd:A.guards=some []
theorem RoomM.deeper {k:Nat} {A:Around} (r:RoomM (k+1) A) (env:Env):RoomM k (A.deeper env):=
 ⟨by have:=r.dp;show A.depth+1+3*k+5<_;omega,by have:=r.un;show A.units+3+16*k+200<_;omega,r.gd⟩
theorem RoomM.units {k:Nat} {A:Around} (r:RoomM k A):A.units+64<cLine:=by have:=r.un;omega
theorem RoomM.mono {j k:Nat} {A:Around} (r:RoomM k A) (h:j≤k):RoomM j A:=⟨by have:=r.dp;omega,by have:=r.un;omega,r.gd⟩
theorem RoomM.of {k:Nat} {A:Around} (r:Room k A) (e:Option Value):RoomM k (A.mark e):=⟨r.dp,r.un,r.gd⟩
def IJ (P:Program) (w:World) (K:Frag) (mg:Str→Option Value) (base:Heap) (N:List Str) (qual:Str) (scope:Scope) (f:Addr) (cd:Value) (A:Around) (outer:List Env) (s:Shared) (H:Hp):Cx:=
 {AI PV P w K mg base N qual scope f cd A outer s H E0 with calm:=false,xe:=fun _ _=>False}
theorem Yg {P:Program} {w:World} {K:Frag} {mg:Str→Option Value} {base:Heap} {N ps:List Str} {qual:Str} {scope:Scope} {f:Addr} {cd:Value} {A:Around} {outer:List Env} {s s1:Shared} {H:Hp} {us:List Value} {vs:List V}
 (S:AY N ps scope) (e0:FW P w K mg base A outer s H) (hl:vs.length=ps.length) (r:Vals vs us)
 (x:InCallC s s.heap.objs.size (bindL (envOfC qual scope s.heap.objs.size f cd).kindOf (ps.zip us) fun _=>none) (cellsFrom (s.heap.objs.size+1) scope.names []) (bindC (envOfC qual scope s.heap.objs.size f cd).kindOf (ps.zip us) fun _=>none) s1):
 Inv (IJ P w K mg base N qual scope f cd A outer s H) [] (start N vs) H s1:=by
 have hpl:ps.length≤N.length:=by have:=congrArg List.length S.pre;rw [I0] at this;omega
 obtain ⟨h1,tk,rfl,hk⟩:=x.done
 have noA:∀b:Addr,b∉(IJ P w K mg base N qual scope f cd A outer s H).ex:=fun b z=>absurd (show b∈([]:List Addr) from z) (by simp)
 refine ⟨⟨e0.mod,S.kind,rfl,rfl,AF _,fun y z c h1 h2=>?_,fun y hy=>?_,fun y c _ h=>?_,fun z=>(nomatch z),Around.frames_deeper e0.frames,.inr ⟨rfl,rfl⟩,fun b z=>absurd z (noA b),e0.bs,e0.bsz,fun b _ _=>noA b,fun b z=>absurd z (noA b),e0.funs,e0.frf⟩,
  rfl,e0.bare,Un.kept hk,⟨_,x.toInCall.ns,fun i y v h1 h2 h3=>?_⟩,fun y c h=>⟨_,x.cell y c h⟩,e0.hok.fresh (AF _),fun y c h=>?_,fun p hp=>absurd (show p∈([]:List (Addr×Obj)) from hp) (by simp),e0.hok.kept hk,?_⟩
 ·exact name_of_addr x.apart (PySem.mem_of_lookup h1) (PySem.mem_of_lookup h2)
 ·have hy:scope.names.lookup y=some .cell∨scope.names.lookup y=some .free:=hy
  rcases hy with hy |hy
  ·exact KG hy
  ·exact absurd rfl (S.nofree _ (PySem.mem_of_lookup hy))
 ·exact Ft (x.above y c (PySem.mem_of_lookup h))
 ·have hi:i<vs.length:=by
   unfold L2.start at h2
   by_cases hi:i<vs.length
   ·exact hi
   ·rw [IX (by simpa using hi)] at h2
    rw [ML] at h2
    split at h2<;>cases h2
  have ha:vs[i]?=some v:=by
   unfold L2.start at h2
   rw [Fo (by simpa using hi),Ck] at h2
   cases e:vs[i]? with
   |none=>rw [e] at h2;cases h2
   |some a=>rw [e] at h2;cases h2;rfl
  obtain ⟨u,hu,rv⟩:=r.get ha
  have hp:ps[i]?=some y:=by
   rw [←S.pre,List.getElem?_take_of_lt (by omega)];exact h1
  have ndP:ps.Nodup:=by rw [←S.pre];exact S.nd.sublist (List.take_sublist _ _)
  refine ⟨u,rv,?_⟩
  rcases S.par y (Gn hp) with k |k
  ·exact .inl ⟨k,M7 ndP hp hu k⟩
  ·obtain ⟨c,e⟩:=KG (n:=s.heap.objs.size+1) k
   refine .inr ⟨.inl k,c,e,?_⟩
   have q:=x.cell y c e
   rw [M8 ndP hp hu (by show scope.names.lookup y≠_;rw [k];decide)] at q
   exact q
 ·exact e0.hok.fresh (Ft (x.above y c (PySem.mem_of_lookup h)))
 ·unfold L2.start
  show _=N.length
  rw [FQ,CA,List.length_replicate]
  omega
structure RG (P:Program) (w:World) (K:Frag) (mg:Str→Option Value) (base:Heap) (k:Nat) (f:Addr) (fd:FuncData) (ps:List Str) (F:List D→HD→Out D):Prop where
 run:∀(A:Around) (outer:List Env) (s:Shared) (H:Hp) (args:Args) (us:List Value) (vs:List V) (Q:VK),RoomM k A→FW P w K mg base A outer s H→BindsTo s fd args (ps.zip us)→Vals vs us→KS K F vs H Q E0→
  codeAny (model P w) A (.call (.ref f) args) (CR PV outer P w H s Q E0) s
theorem Yh {P:Program} {w:World} {K:Frag} {mg:Str→Option Value} {base:Heap} {x qual:Str} {st:Stmt} {f:Addr} {fd:FuncData} {N ps:List Str} {k:Nat} {F:List D→HD→Out D} {g:MS} (Fn:Fun K x qual st f fd) (S:AY N ps (defScope st)) (ar:Ar ps.length F)
 (hg:∀ds h,ds.length=ps.length→F ds h=Am N.length g ds h)
 (hbody:∀(cdv:Value) (A:Around) (outer:List Env) (s:Shared) (H:Hp),RoomM k (A.deeper (envOfC qual (defScope st) s.heap.objs.size f cdv))→AU (IJ P w K mg base N qual (defScope st) f cdv A outer s H) E0 (defBody st) g):RG P w K mg base (k+1) f fd ps F:=by
 obtain ⟨oc,od,kV,doc,pm,an,cdv,ct,osl,rfl,lk,hcd⟩:=Fn.ex
 refine ⟨fun A outer s H args us vs Q hr e0 hb r hsp=>?_⟩
 have hl:vs.length=ps.length:=ar.len hsp
 have KX:K.In s.heap:=e0.mod.kin.keeps fun b o e=>(e0.bs b o e).1
 have lim:s.heap.NoLimit:=e0.mod.nolimit.keeps fun b o e=>(e0.bs b o e).1
 have hkind:∀y∈ps.zip us,(defScope st).names.lookup y.1=some .local∨((defScope st).names.lookup y.1=some .cell∧((cellsFrom (s.heap.objs.size+1) (defScope st).names []).lookup y.1).isSome=true):=fun z1_ hy=>by
  obtain ⟨n,v⟩:=z1_
  rcases S.par n (Kq hy).1 with q |q
  ·exact .inl q
  ·exact .inr ⟨q,PySem.W.cellsFrom_some _ _ _ (.inl q)⟩
 refine codeAny_call_function (by have:=hr.dp;omega) (KX _ _ lk) rfl S.co S.gen rfl (PySem.W.codeRec_of KX hcd) (hb _ _ _ _ ?_)
 refine wpAny_newFunctionEnv_cells S.kind hkind fun env he s1 x=>?_
 subst he
 refine ⟨lim.keeps x.toInCall.keep,codeAny_func ?_⟩
 have I:Inv (IJ P w K mg base N qual (defScope st) f cdv A outer s H) [] (start N vs) H s1:=Yg S e0 hl r x
 have A1:∀{σ':L2.St} {H':Hp} {v:V} {u:Value} {s':Shared},Inv (IJ P w K mg base N qual (defScope st) f cdv A outer s H) [] σ' H' s'→RelV v u→Q v H'→CE outer P w H s Q u s':=
  fun {σ' H' v u s'} J rv q=>⟨v,H',J.os,J.bare,J.base,J.hok,rv,q⟩
 have post:HV K E0 g {nx:=fun _ H'=>Q .non H',rt:=Q} (start N vs) H:=by
  obtain ⟨m,ds,hd,hr1,r,p⟩:=hsp
  have hld:ds.length=ps.length:=by rw [r.len];exact hl
  refine ⟨m,ds.map some++List.replicate (N.length - ds.length) none,hd,hr1,ER.start r,?_⟩
  rw [hg ds hd hld] at p
  unfold Am at p
  cases o:g (ds.map some++List.replicate (N.length - ds.length) none) hd with
  |stuck=>rw [o] at p;exact p
  |err C fs h1=>rw [o] at p;exact p
  |ok a h1=>
   rw [o] at p
   obtain ⟨fl,ρ1⟩:=a
   intro m1 H1 p1 k1 hr1
   cases fl with
   |nx=>exact fun σ er=>p .non m1 H1 p1 k1 hr1 (by simp [rD,DV])
   |bk=>exact False.elim p
   |ct=>exact False.elim p
   |rt d=>exact fun v rv=>p v m1 H1 p1 k1 hr1 rv
 refine wpAny_mono (hbody cdv A outer s H (hr.deeper _) [] s1 (start N vs) H _ I post) (fun fl s' hs=>?_) fun e s' hs=>hs.elim
 cases fl with
 |ret u=>
  obtain ⟨v,σ',H',J,rv,q⟩:=hs
  exact A1 J rv q
 |next=>
  obtain ⟨σ',H',J,q⟩:=hs
  exact A1 (v:=V.non) (u:=Value.none) J rfl q
 |brk=>
  obtain ⟨_,_,_,q⟩:=hs
  exact False.elim q
 |cont=>
  obtain ⟨_,_,_,q⟩:=hs
  exact False.elim q
structure CaM (P:Program) (w:World) (K:Frag) (mg:Str→Option Value) (base:Heap) (x:Str) (k:Nat) (F:List D→HD→Out D):Prop where
 ex:∃(f:Addr) (fd:FuncData) (ps:List Str),RG P w K mg base k f fd ps F∧Binds K fd ps []∧mg x=some (.ref f)∧PySem.W.keepIn K (.ref f)=true∧Ar ps.length F
section
variable {X:Cx} {E:XK}
theorem Yi {k k':Nat} {F:List D→HD→Out D} {fa:MA} {x:Str} {p pos:Pos} {e:Expr} {es:List Expr} (C:CaM X.prog X.w X.K X.mg X.base x k F) (hr:RoomM k' X.A) (ha:CS X E0 (e::es) fa) (hk:k≤k':=by decide) (hg:Gl X x:=by rfl)
 (hdb:(x==("__debug__":Str))=false:=by decide) (he:starEach (e::es) X.env=(false,eval e X.env)::starEach es X.env:=by rfl) (hpl:(backTo pos (starEach es X.env)).any (·.1)=false:=by rfl):
 Ev X E0 (.Call (.Name x p) (e::es) [] pos) (Ag F fa):=by
 obtain ⟨f,fd,ps,G,hb,hm,hkp,ar⟩:=C.ex
 rintro pins s σ H Q I ⟨m,ρ,hd,hr1,er,pp⟩
 refine wpAny_Call_Name_kw (Gw I hg hm ?_ hdb)
 have post:PY X.K E0 fa σ H (fun vs H1=>KS X.K F vs H1 Q E0):=⟨m,ρ,hd,hr1,er,Post.bind pp fun xs h1 vs m1 H1 e1 p1 k1 hr1 r1 q1=>⟨m1,xs,h1,hr1,r1,q1⟩⟩
 refine PySem.W.callWith_K (h₀:=X.base) I.ok.mod.kin hkp (Ax (ha pos pins s σ H _ I post) ?_) he hpl
 rintro us s1 ⟨vs,H1,I1,r,q⟩
 refine ⟨I1.kIn,?_⟩
 have hl:us.length=ps.length:=by rw [←r.length];exact ar.len q
 have hb':=hb s1 us I1.kIn (by rw [Gr];exact hl)
 rw [Gr] at hb'
 refine wpAny_call (codeAny_mono (G.run X.A X.stack s1 H1 ⟨us,[]⟩ us vs Q (hr.mono hk) I1.env0 hb' r q) fun r s' hq=>?_)
 cases r with
 |error e=>exact False.elim hq
 |ok fl=>
  cases fl with
  |ret u=>exact I1.after hq
  |next=>exact False.elim hq
  |brk=>exact False.elim hq
  |cont=>exact False.elim hq
end
theorem RH {P:Program} {w:World} {fs:List Addr} {H H':Hp} {h0 h h':Heap} {a T:Addr} {C a0:Value} (B:Un fs [] H H' h0 h) (hok:HOk P w H' h) (na:h0.get? a=none) (nT:h0.get? T=none) (ha:H' a=none) (hT:H' T=none)
 (frNone:∀b∈fs,H' b=none) (noFields:∀b∈fs,∃o,h.get? b=some o∧∀vs,o.data≠.fields vs) (stay:(blank (fun b=>b=a∨b=T∨b∈fs) h).StaysIn h') (ups:∀b o,h.get? b=some o→(∀vs,o.data≠.fields vs)→∃sl,h'.get? b=some {o with slots:=sl})
 (tr:h'.TracedW (blank (fun b=>b=a∨b=T∨b∈fs) h) a C a0) {da:Option Addr} {oa:Obj} (ea:h.get? a=some oa) (ed:oa.dict=da) (dd:Dicts h h'):Un fs [] H H' h0 h'∧HOk P w H' h'∧Ll h0 h' H' a C da:=by
 obtain ⟨oe,vs,T2,oT,ts,e1,e2,e3,e4,e5,e6,e7,e8,e9⟩:=tr
 have e11:oe.dict=da:=by
  obtain ⟨o',q1,q2⟩:=dd a oa ea
  rw [e1] at q1
  cases q1
  exact q2.trans ed
 have keepOf:∀b o,¬(b=a∨b=T∨b∈fs)→h.get? b=some o→h'.get? b=some o:=fun b o hb e=>stay b o (by rw [GM hb];exact e)
 have old:∀b o,h0.get? b=some o→b≠a∧b≠T:=fun b o e=>⟨fun z=>(by rw [z,na] at e;cases e),fun z=>(by rw [z,nT] at e;cases e)⟩
 have any:∀b o,h0.get? b=some o→h.get? b≠none→∃o',h'.get? b=some o':=fun b o e hn=>by
  cases e':h.get? b with
  |none=>exact absurd e' hn
  |some o'=>
   by_cases hb:b∈fs
   ·obtain ⟨o2,h2,d2⟩:=noFields b hb
    obtain ⟨sl,h3⟩:=ups b o2 h2 d2
    exact ⟨_,h3⟩
   ·exact ⟨o',keepOf b o' (fun z=>by rcases z with z |z |z;exact (old b o e).1 z;exact (old b o e).2 z;exact hb z) e'⟩
 refine ⟨⟨fun b o e n hb hx=>?_,fun b o e n hb hx=>?_,B.free,fun b o e hx=>?_,B.tups,B.frzs,B.tbls⟩,fun b o e=>?_,na,ha,oe,vs,a0,T2,oT,ts,e1,e2,e3,e4,?_,?_,e6,e7,e8,e9,e11⟩
 ·exact keepOf b o (fun z=>by rcases z with z |z |z;exact (old b o e).1 z;exact (old b o e).2 z;exact hb z) (B.keep b o e n hb hx)
 ·obtain ⟨sl,h1⟩:=B.slot b o e n hb hx
  obtain ⟨o2,h2,d2⟩:=noFields b hb
  rw [h1] at h2
  cases h2
  obtain ⟨sl2,h3⟩:=ups b _ h1 d2
  exact ⟨sl2,h3⟩
 ·obtain ⟨o',h1⟩:=B.there b o e hx
  exact any b o e (by rw [h1];simp)
 ·refine (hok b o e).stay (fun c u hc q=>keepOf c u (fun z=>?_) q) (fun _ q=>q) fun _ _ q=>q
  have hc':H' c≠none:=by
   rcases hc with rfl |hc
   ·rw [e];simp
   ·rw [hc];simp
  rcases z with z |z |z
  ·exact hc' (z ▸ ha)
  ·exact hc' (z ▸ hT)
  ·exact hc' (frNone c z)
 ·cases q:h0.get? T2 with
  |none=>rfl
  |some o=>
   exfalso
   obtain ⟨o',h1⟩:=B.there T2 o q (by simp)
   by_cases hb:T2∈fs
   ·obtain ⟨o2,h2,d2⟩:=noFields T2 hb
    obtain ⟨sl,h3⟩:=ups T2 o2 h2 d2
    rw [h3] at e7
    cases e7
    exact d2 _ e8
   ·rw [GM (fun z=>by rcases z with z |z |z;exact (old T2 o q).1 z;exact (old T2 o q).2 z;exact hb z),h1] at e5
    cases e5
 ·cases q:H' T2 with
  |none=>rfl
  |some o=>
   exfalso
   by_cases hb:T2=a∨T2=T∨T2∈fs
   ·rcases hb with z |z |z
    ·rw [z,ha] at q;cases q
    ·rw [z,hT] at q;cases q
    ·rw [frNone T2 z] at q;cases q
   ·rw [GM hb] at e5
    obtain ⟨ob,eb⟩:=NI (hok T2 o q)
    rw [eb] at e5
    cases e5
theorem Yj {M:Model} {A:Around} {E:Value→Shared→Prop} {s:Shared} {base:Heap} {env:Env} {outer:List Env} {L e:Addr} {C a0:Value} {Q:Unit→Shared→Prop} (fr:A.frames=some (env::outer)) (lo:env.frame=some L) (fl:Heap.FlyingW base (env::outer) e C a0 s.heap)
 (q:∀h',Heap.HeldW base (env::outer) e C a0 L h'→s.heap.UpToSlots h'→Dicts s.heap h'→Q () {s with heap:=h'}):wpAny M A (noteFrame (.ref e) env) Q E s:=by
 refine wpAny_mono (JK QZ (wpAny_looks_onW (M:=M) (A:=A) (E:=fun _ _=>False) (Q:=fun _ s'=>∃h',s'={s with heap:=h'}∧Heap.HeldW base (env::outer) e C a0 L h'∧s.heap.UpToSlots h') fr lo fl fun h' z1 z2=>⟨h',rfl,z1,z2⟩)) (fun _ s' z=>?_) fun _ _ z=>z.1.elim
 obtain ⟨⟨h',rfl,z1,z2⟩,D⟩:=z
 exact q h' z1 z2 D
theorem Yk {M:Model} {A:Around} {E:Value→Shared→Prop} {s:Shared} {base:Heap} {l:List Env} {e L:Addr} {C a0:Value} {Q:Unit→Shared→Prop} (held:Heap.HeldW base l e C a0 L s.heap)
 (q:∀h',Heap.FlyingW base l e C a0 h'→s.heap.UpToSlots h'→Dicts s.heap h'→Q () {s with heap:=h'}):wpAny M A (setFlight (.ref e) none) Q E s:=by
 refine wpAny_mono (JK NG (wpAny_landsW (M:=M) (A:=A) (E:=fun _ _=>False) (Q:=fun _ s'=>∃h',s'={s with heap:=h'}∧Heap.FlyingW base l e C a0 h'∧s.heap.UpToSlots h') held fun h' z1 z2=>⟨h',rfl,z1,z2⟩)) (fun _ s' z=>?_) fun _ _ z=>z.1.elim
 obtain ⟨⟨h',rfl,z1,z2⟩,D⟩:=z
 exact q h' z1 z2 D
theorem Yl {M:Model} {A:Around} {E:Value→Shared→Prop} {s:Shared} {base:Heap} {l:List Env} {e:Addr} {C a0:Value} {Q:Unit→Shared→Prop} (held:Heap.FlyingW base l e C a0 s.heap)
 (q:∀h',Heap.FlyingW base l e C a0 h'→s.heap.UpToSlots h'→Dicts s.heap h'→Q () {s with heap:=h'}):wpAny M A (setFlight (.ref e) none) Q E s:=by
 refine wpAny_mono (JK NG (lands_againW (M:=M) (A:=A) (E:=fun _ _=>False) (Q:=fun _ s'=>∃h',s'={s with heap:=h'}∧Heap.FlyingW base l e C a0 h'∧s.heap.UpToSlots h') held fun h' z1 z2=>⟨h',rfl,z1,z2⟩)) (fun _ s' z=>?_) fun _ _ z=>z.1.elim
 obtain ⟨⟨h',rfl,z1,z2⟩,D⟩:=z
 exact q h' z1 z2 D
section
variable {X:Cx} {pins:List (Addr×Obj)} {σ:L2.St} {H:Hp} {s:Shared}
theorem Inv.track {a:Addr} {o:HO} (I:Inv X pins σ H s) (new:X.s₀.heap.get? a=none) (no:H a=none) (hL:a≠X.env.locals) (hc:∀x c,X.env.cells.lookup x=some c→c≠a) (hp:∀p∈X.pn++pins,p.1≠a) (ok:ObjOk X.prog X.w (Ao H a o) s.heap a o):
 Inv X pins σ (Ao H a o) s:=by
 have ne:∀b u,H b=some u→b≠a:=fun b u e=>BE e no
 refine ⟨I.ok,I.os,I.bare,⟨I.base.keep,I.base.slot,fun b ob e n hx=>?_,I.base.there,fun b xs e=>?_,fun b ob u e=>?_,fun b ps e=>?_⟩,I.loc,I.cell,?_,fun x c e=>?_,fun p hp'=>?_,fun b u e=>?_,I.len⟩
 ·rw [Au (fun z=>by rw [z,new] at e;cases e)];exact I.base.free b ob e n hx
 ·have:=I.base.tups b xs e
  rw [Au (ne _ _ this)];exact this
 ·have:=I.base.frzs b ob u e
  rw [Au (ne _ _ this)];exact this
 ·obtain ⟨more,this⟩:=I.base.tbls b ps e
  exact ⟨more,by rw [Au (ne _ _ this)];exact this⟩
 ·rw [Au (Ne.symm hL)];exact I.free
 ·rw [Au (hc x c e)];exact I.freeC x c e
 ·obtain ⟨a1,a2,a3⟩:=I.pin p hp'
  exact ⟨a1,by rw [Au (hp p hp')];exact a2,a3⟩
 ·by_cases hb:b=a
  ·subst hb
   rw [B3] at e
   cases e
   exact ok
  ·rw [Au hb] at e
   exact (I.hok b u e).stay (fun _ _ _ q=>q) (fun c q=>by rw [Au (ne _ _ q)];exact q) fun c xs q=>by rw [Au (ne _ _ q)];exact q
theorem Inv.locals {σ':L2.St} {h':Heap} {m':Str→Option Value} {t':Nat} (I:Inv X pins σ H s) (hn':h'.Ns X.env.locals m') (hs:Heap.SameBut X.env.locals s.heap h')
 (hl:∀(i:Nat) (x:Str) (v:V),X.N[i]?=some x→σ'[i]?=some (some v)→Kv X.env.scope x→∃u,RelV v u∧Pj X.env h' m' x u) (len:σ'.length=σ.length):Inv X pins σ' H {s with heap:=h',toks:=t'}:=by
 obtain ⟨m,hn,_⟩:=id I.loc
 obtain ⟨oL,_,_,hoL,_⟩:=id hn
 have neL:∀b o,X.s₀.heap.get? b=some o→b≠X.env.locals:=fun b o e=>Bg (A0 (AE e) I.ok.above)
 refine ⟨I.ok,I.os,I.bare,⟨fun b o e n hb hx=>?_,fun b o e n hb hx=>?_,I.base.free,fun b o e hx=>?_,I.base.tups,I.base.frzs,I.base.tbls⟩,⟨_,hn',hl⟩,fun y c e=>?_,I.free,I.freeC,fun p hp=>?_,fun b ob e=>?_,len.trans I.len⟩
 ·exact (hs.2 b (neL b o e)).trans (I.base.keep b o e n hb hx)
 ·obtain ⟨sl,e1⟩:=I.base.slot b o e n hb hx
  exact ⟨sl,(hs.2 b (neL b o e)).trans e1⟩
 ·obtain ⟨o',e1⟩:=I.base.there b o e hx
  exact ⟨o',(hs.2 b (neL b o e)).trans e1⟩
 ·obtain ⟨v,z⟩:=I.cell y c e
  exact ⟨v,z.sameBut hs (I.cne y c e)⟩
 ·obtain ⟨a1,a2,a3,a4⟩:=I.pin p hp
  exact ⟨(hs.2 _ a3).trans a1,a2,a3,a4⟩
 ·refine (I.hok b ob e).stay (fun c w' hc q=>(hs.2 c ?_).trans q) (fun _ q=>q) fun _ _ q=>q
  rintro rfl
  have hfree:=I.free
  rcases hc with rfl |hc
  ·rw [hfree] at e;cases e
  ·rw [hfree] at hc;cases hc
theorem Ym {M:Model} {A:Around} {E:Value→Shared→Prop} {n:Str} {pos:Pos} {i:Nat} {Q:Unit→Shared→Prop} (I:Inv X pins σ H s) (hN:X.N.Nodup) (hi:X.N[i]?=some n) (hl:X.env.kindOf n=some .local)
 (h:∀s',Inv X pins (σ.set i none) H s'→Q () s'):wpAny M A (do bindName X.env n .none;unbindBehindTheSuite X.env n pos) Q E s:=by
 have hp:(X.env.scope.kind==.class||(X.env.scope.kind==.module&&X.env.locals != X.env.globals))=false:=by rw [I.ok.kind];rfl
 refine wpAny_bind (wpAny_bindName (Kw (v:=.non) I hN hi (.inl hl) rfl (fun s1 I1 _=>?_) (.inr hl)))
 unfold unbindBehindTheSuite
 refine wpAny_onRaise ?_
 unfold unbindName
 refine wpAny_bind (wpAny_point (wpAny_bind ?_))
 unfold deleteName
 simp only [hl,hp]
 rw [if_neg (by decide)]
 obtain ⟨m1,hn1,hl1⟩:=I1.loc
 have hin:(m1 n).isSome=true:=by
  have hiσ:i < σ.length:=by rw [I.len];exact (qa2.mp hi).1
  obtain ⟨u,_,lk⟩:=hl1 i n .non hi (by rw [Cy hiσ]) (.inl hl)
  rcases lk with ⟨_,z⟩ |⟨z,_⟩
  ·rw [z];rfl
  ·rcases z with z |z<;>(rw [hl] at z;cases z)
 refine wpAny_bind (wpAny_nsDel_keeps hn1 fun h2 v hn2 hs2=>?_)
 simp only [hin,if_true,Bool.not_true,B2,if_false]
 refine wpAny_pure (wpAny_point (h _ (Inv.locals (t':=s1.toks) (I1.weak (σ':=σ.set i none) (by simp) fun j v' e=>?_) hn2 hs2 (fun j x v' e1 e2 e3=>?_) rfl)))
 ·by_cases hj:i=j
  ·subst hj
   have hiσ:i < σ.length:=by rw [I.len];exact (qa2.mp hi).1
   rw [Cy hiσ] at e;cases e
  ·rw [BV hj] at e ⊢;exact e
 ·have hj:i≠j:=by
   rintro rfl
   have hiσ:i < σ.length:=by rw [I.len];exact (qa2.mp hi).1
   rw [Cy hiσ] at e2;cases e2
  rw [BV hj] at e2
  obtain ⟨u,r,lk⟩:=hl1 j x v' e1 (by rw [BV hj];exact e2) e3
  have hx:x≠n:=fun z=>hj (MN hN hi (z ▸ e1))
  refine ⟨u,r,?_⟩
  rcases lk with ⟨k1,k2⟩ |⟨k1,c,k2,k3⟩
  ·exact .inl ⟨k1,(if_neg hx).trans k2⟩
  ·exact .inr ⟨k1,c,k2,k3.sameBut hs2 (I1.cne x c k2)⟩
end
def FK:List (Str×D)→Option (List (Str×Int))
 |[]=>some []
 |(f,.int i)::r=>(FK r).map fun l=>(f,i)::l
 |_=>none
theorem RI:∀{fs:List (Str×D)} {is:List (Str×Int)} {f:Str} {i:Int},FK fs=some is→is.lookup f=some i→fs.lookup f=some (.int i)
 |[],is,f,i,e,l=>by cases e;cases l
 |(g,d)::r,is,f,i,e,l=>by
  cases d with
  |int j=>
   simp only [FK] at e
   cases er:FK r with
   |none=>rw [er] at e;cases e
   |some l2=>
    rw [er] at e
    cases e
    rw [FR] at l ⊢
    cases hb:f==g with
    |true=>rw [hb] at l;cases l;rfl
    |false=>rw [hb] at l;exact RI er l
  |_=>cases e
open Classical in
noncomputable def Lz (a:Addr) (vs:List V) (Fk:List D→HD→Out D) (f:ME):MS:=fun ρ h=>match (ρ[0]?:Option (Option D)),(h[0]?:Option Cell) with
 |some (some (.clo a' vs' ds)),some .tab=>if a'=a∧vs'=vs then (match f (ds.map some) h with
  |.ok _ h1=>.ok (.nx,ρ) h1
  |.err (.str n _) fs h1=>if n∈excNames then (match FK fs with
   |some is=>(match Fk [.exc n is] h1 with
    |.ok d h2=>.ok (.nx,(ρ.set 1 (some d)).set 2 none) h2
    |_=>.stuck)
   |none=>.stuck) else .stuck
  |_=>.stuck) else .stuck
 |_,_=>.stuck
structure SaidX (X:Cx) (P a c':Addr) (lpos:Pos) (Nc:List Str) (params:Arguments) (body:Expr) (scope:Scope) (cl:List (Str×Addr)) (pm ctv:Value) (vs:List V):Prop where
 N:X.N=(["_law_call","_law_word","_law_e"]:List Str)
 k0:X.env.kindOf "_law_call"=some .local
 k1:X.env.kindOf "_law_word"=some .local
 k2:X.env.kindOf "_law_e"=some .local
 tp:∃c,tabP X.K=some (c,P)
 tb:∃ps,X.H₀ P=some (.tbl ps)∧TriplesOk ps.toList∧codeAmong lpos ps.toList=some (.ref c')
 ob:X.s₀.heap.get? a=some (kla_obj "<lambda>" BB params body scope cl pm c' ctv)
 no:X.H₀ a=none
 nf:a∉X.fs
 clo:JR X.s₀.heap X.H₀ X.outer Nc scope cl vs
section
variable {X:Cx} {E:XK} {P a c':Addr} {lpos:Pos} {Nc:List Str} {params:Arguments} {body:Expr} {scope:Scope} {cl:List (Str×Addr)} {pm ctv:Value} {vs:List V}
theorem Yn {M:Model} {A:Around} {E:Value→Shared→Prop} {s:Shared} {a:Addr} {o:Obj} {fd:FuncData} {Q:Value→Shared→Prop} {env:Env} {pos:Pos} (h0:s.heap.get? a=some o) (hd:o.data=.func fd) (h:wpAny M A (call (.ref a) []) Q E s):
 wpAny M A (callWith pos (.ref a) [] (backTo pos (starEach [] env)) []) Q E s:=
 callWith_of (P:=fun h=>h.get? a=some o) rfl (fun h e=>⟨.frame,.inl rfl,(Looks.ld (part:=none) e).andThen (by rw [hd];exact .now)⟩) (evalArgs_nil3 ⟨h0,h⟩)
theorem SaidX.cloNow (S:SaidX X P a c' lpos Nc params body scope cl pm ctv vs) (lv:Lv X E) {pins:List (Addr×Obj)} {σ:L2.St} {H:Hp} {s:Shared} (I:Inv X pins σ H s):JR s.heap H X.stack Nc scope cl vs∧s.heap.get? a=some (kla_obj "<lambda>" BB params body scope cl pm c' ctv):=by
 have B:Un X.fs [] X.H₀ H X.s₀.heap s.heap:=by have:=I.base;rw [lv.ex] at this;exact this
 have keep:∀c v,X.s₀.heap.IsCell c v→X.H₀ c=none→c∉X.fs→s.heap.IsCell c v:=fun c v z1_ n f=>by obtain ⟨o,e,d⟩:=z1_;exact (⟨o,B.keep c o e n f (by simp),d⟩)
 refine ⟨⟨S.clo.len,S.clo.inj,S.clo.has,fun x c e=>?_,fun i x v e1 e2=>?_⟩,B.keep a _ S.ob S.no S.nf (by simp)⟩
 ·obtain ⟨⟨v,q⟩,n,f⟩:=S.clo.cell x c e
  obtain ⟨o,e1,d⟩:=id q
  refine ⟨⟨v,keep c v q n f⟩,B.free c o e1 n (by simp),fun z=>?_⟩
  rw [lv.frs] at z
  rcases qa4.mp z with z |z
  ·exact absurd (A0 (AE e1) I.ok.above) (by rw [z];exact Dw _)
  ·exact f z
 ·obtain ⟨hf,c,u,e3,e4,r⟩:=S.clo.val i x v e1 e2
  obtain ⟨_,n,f⟩:=S.clo.cell x c e3
  exact ⟨hf,c,u,e3,keep c _ e4 n f,r⟩
def Gh (X:Cx) (e:Addr):Cx:={X with A:=X.A.mark (some (.ref e)),calm:=false,xe:=fun _ _=>False}
theorem Inv.marked {pins:List (Addr×Obj)} {σ:L2.St} {H:Hp} {s:Shared} {e:Addr} (I:Inv X pins σ H s):Inv (Gh X e) pins σ H s:=
 ⟨⟨I.ok.mod,I.ok.kind,I.ok.glob,I.ok.blt,I.ok.above,I.ok.inj,I.ok.has,I.ok.cab,fun z=>(nomatch z),I.ok.frames,I.ok.stk,I.ok.exf,I.ok.bs,I.ok.bsz,I.ok.noex,I.ok.exfs,I.ok.funs,I.ok.frf⟩,I.os,I.bare,I.base,I.loc,I.cell,I.free,I.freeC,I.pin,I.hok,I.len⟩
theorem Inv.unmarked {pins:List (Addr×Obj)} {σ:L2.St} {H:Hp} {s:Shared} {e:Addr} (ok:X.Ok) (I:Inv (Gh X e) pins σ H s):Inv X pins σ H s:=
 ⟨ok,I.os,I.bare,I.base,I.loc,I.cell,I.free,I.freeC,I.pin,I.hok,I.len⟩
theorem Yo {k:Nat} {Fk:List D→HD→Out D} {f:ME} {p4 p5 p6 p7 p8 p9 p10 p11 p12 p13 p14:Pos} (lv:Lv X E) (S:SaidX X P a c' lpos Nc params body scope cl pm ctv vs) (hr:Room (k+1) X.A) (et:etOk X.K=true) (hsw:∃Sw,nsIn X.K mainGlobals "SwitchError"=some (some (.ref Sw)))
 (hgS:X.env.kindOf "SwitchError"=some .globalImplicit) (hgK:X.env.kindOf "_law_kind"=some .globalImplicit)
 (hkind:CaM X.prog X.w X.K X.mg X.base "_law_kind" k Fk) (hL:LamSc scope) (hbind:bindArgs (kla_fn "<lambda>" BB params body scope cl pm (.ref c') ctv) ⟨[],[]⟩=pure [])
 (hb:∀(s:Shared) (H:Hp) (E':XK),Room k (X.A.deeper (envX BB scope s.heap.objs.size a (.ref c') cl))→Ev (FJ X.prog X.w X.K X.mg X.base Nc scope a (.ref c') cl X.A X.stack s H E') E' body f):
 Ex X E (.Try [.Expr (.Call (.Name "_law_call" p4) [] [] p5) p6] [.ExceptHandler (some (.Name "SwitchError" p7)) (some "_law_e") [.Assign [.Name "_law_word" p8] (.Call (.Name "_law_kind" p9) [.Name "_law_e" p10] [] p11) p12] p13] [] [] p14) (Lz a vs Fk f):=by
 rintro pins s σ H Dn I ⟨m,ρ,h,hr1,er,p⟩
 refine Classical.byContradiction fun nG=>?_
 have hN0:X.N[0]?=some ("_law_call":Str):=by rw [S.N];rfl
 have hN1:X.N[1]?=some ("_law_word":Str):=by rw [S.N];rfl
 have hN2:X.N[2]?=some ("_law_e":Str):=by rw [S.N];rfl
 have nd:X.N.Nodup:=by rw [S.N];decide +kernel
 obtain ⟨Sw,hSw⟩:=hsw
 unfold Lz at p
 split at p
 ·rename_i a' vs' ds e0 et0
  split at p
  ·rename_i hav
   obtain ⟨rfl,rfl⟩:=hav
   obtain ⟨C,ob⟩:=S.cloNow lv I
   obtain ⟨v0,hv0,rv0⟩:=er.2 0 _ e0
   simp only [DV] at rv0
   obtain ⟨rfl,rds⟩:=rv0
   obtain ⟨aP,haP,tab⟩:=hr1.at et0
   obtain ⟨⟨cc,htp⟩,ps2,hps2,htr2,hcs2⟩:=tab
   obtain ⟨cc',htp'⟩:=S.tp
   rw [htp'] at htp
   cases htp
   obtain ⟨ps,hps,htr,hca⟩:=S.tb
   obtain ⟨more,hmore⟩:=I.base.tbls P ps hps
   have hca2:codeAmong lpos ps2.toList=some (.ref c'):=by
    have e:=hmore.symm.trans hps2
    cases e
    rw [Array.toList_append]
    exact X9 htr hca
   obtain ⟨c2,e2,hx2⟩:=hcs2 lpos _ hca2
   cases e2
   have hcd:s.heap.CodeRec (.ref c') BB:=(I.hok c' _ hx2).1
   have run:∀(Q:VK) (E':XK),Post X.K (rD X.K) m H E' Q (f (ds.map some) h)→codeAny (model X.prog X.w) X.A (.call (.ref a') ⟨[],[]⟩) (CR (As X.prog X.w X.K) X.stack X.prog X.w H s Q E') s:=fun Q E' q=>
    Ye hL hr I.env0 C ob hcd hbind (hb s H E') ⟨m,ds,h,hr1,rds,q⟩
   have start:∀{Q:Flow→Shared→Prop} {EE:Value→Shared→Prop},codeAny (model X.prog X.w) X.A (.call (.ref a') ⟨[],[]⟩) (fun r s'=>match r with |.ok (.ret u)=>Q .next s' |.error e=>EE e s' |_=>False) s→
    wpAny (model X.prog X.w) X.A (execs [.Expr (.Call (.Name "_law_call" p4) [] [] p5) p6] X.env) Q EE s:=fun {Q EE} hc=>by
    refine wpAny_execs_cons (wpAny_Expr_any (wpAny_Call_Name_kw ?_) I.quiet rfl)
    obtain ⟨m0,hn0,hl0⟩:=I.loc
    obtain ⟨u,ru,lk⟩:=hl0 0 "_law_call" (.ref a') hN0 hv0 (.inl S.k0)
    cases (show u=Value.ref a' from ru)
    rcases lk with ⟨hk,hm⟩ |⟨z,_⟩
    ·refine wpAny_Name (wpAny_loadName_local I.ok.kind hk hn0 hm (Yn ob rfl (wpAny_call (codeAny_mono hc fun r s' hq=>?_)))) (by decide)
     cases r with
     |error e=>exact hq
     |ok fl=>
      cases fl with
      |ret u=>exact wpAny_execs_nil hq
      |next=>exact hq.elim
      |brk=>exact hq.elim
      |cont=>exact hq.elim
    ·rcases z with z |z<;>(rw [S.k0] at z;cases z)
   refine nG (wpAny_Try_except (start ?_))
   clear nG
   refine Classical.byContradiction fun nG=>?_
   cases ho:f (ds.map some) h with
   |stuck=>rw [ho] at p;exact p.elim
   |ok d h1=>
    rw [ho] at p
    refine nG (codeAny_mono (run (fun v H'=>∃m',m <+:m'∧Kp H H'∧HR X.K m' h1 H') E0 (by rw [ho];exact fun v m' H' p1 k1 hr' _=>⟨m',p1,k1,hr'⟩)) fun r s' hq=>?_)
    cases r with
    |error e=>
     obtain ⟨_,_,_,_,_,_,_,_,_,_,_,_,q⟩:=hq
     exact q.elim
    |ok fl=>
     cases fl with
     |ret u=>
      obtain ⟨v,H',os,bare,un,hok,_,m',p1,k1,hr'⟩:=hq
      exact wpAny_execs_nil ⟨σ,H',I.call' os un hok bare (fun b hb=>absurd hb (by simp)),p m' H' p1 k1 hr' σ (er.keep p1 k1)⟩
     |next=>exact hq.elim
     |brk=>exact hq.elim
     |cont=>exact hq.elim
   |err Cv fs h1=>
    rw [ho] at p
    cases Cv with
    |str n t=>
     simp only at p
     split at p
     ·rename_i hn
      refine nG (codeAny_mono (run (fun _ _=>False) (fun C' da H'=>C'=.str n t∧∃m',m <+:m'∧Kp H H'∧HR X.K m' h1 H'∧XD X.K m' H' fs da) (by rw [ho];exact fun da m' H' p1 k1 hr' xd=>⟨rfl,m',p1,k1,hr',xd⟩)) fun r s1 hq=>?_)
      clear nG
      cases r with
      |ok fl=>
       cases fl with
       |ret u=>obtain ⟨_,_,_,_,_,_,_,z⟩:=hq;exact z.elim
       |next=>exact hq.elim
       |brk=>exact hq.elim
       |cont=>exact hq.elim
      |error e=>
       obtain ⟨ae,Cc,n',da,H',rfl,os,bare,un,hok,fly,nm,hE,m',p1,k1,hr',xd⟩:=hq
       refine Classical.byContradiction fun nG=>?_
       have hnn:n'=n:=by cases hE;rfl
       subst hnn
       have I1:Inv X pins σ H' s1:=I.call' os un hok bare (fun b hb=>absurd hb (by simp))
       obtain ⟨fnew,fno,oe,ws,a0,T,oT,ts,e1,e2,e3,e4,e5,e6,e7,e8,e9,e10,e11⟩:=fly
       have fro:X.A.frames=some (X.env::X.outer):=by rw [←lv.stk];exact I1.ok.frames
       have stk:s1.heap.FunFrames X.base (X.env::X.outer):=by have:=I1.stack;rw [lv.stk] at this;exact this
       have frN:∀b∈frs X.stack,H' b=none:=fun b hb=>I1.stkFree b hb
       have frO:∀b∈frs X.stack,∃o,s1.heap.get? b=some o∧∀vs,o.data≠.fields vs:=fun b hb=>(I1.stack.mem hb).2
       have fly0:Heap.FlyingW (blank (fun b=>b=ae∨b=T∨b∈frs X.stack) s1.heap) (X.env::X.outer) ae (.ref Cc) a0 s1.heap:=
        ⟨NH,GL (.inl rfl),Lm stk fun b hb=>.inr (.inr (by rw [lv.stk];exact hb)),oe,ws,T,oT,ts,e1,e2,e3,e4,GL (.inr (.inl rfl)),e7,e8,e9,e10⟩
       refine nG (Yj fro lv.fr fly0 fun h4 held4 sm4 D4=>?_)
       clear nG
       refine Yk held4 fun h5 held5 sm5 D5=>?_
       refine Classical.byContradiction fun nG=>?_
       obtain ⟨un5,hok5,fly5⟩:=RH un hok fnew e5 fno e6 frN frO held5.1 (sm4.trans sm5) held5.2.2.2 e1 e11 (D4.trans D5)
       have I5:Inv X pins σ H' {s1 with heap:=h5}:=I.call' (s':={s1 with heap:=h5}) os un5 hok5 bare (fun b hb=>absurd hb (by simp))
       have hmS:X.mg "SwitchError"=some (.ref Sw):=mg_of I.mod.kin I.mod.glob hSw
       have T5:=Lx et hn nm
       obtain ⟨_,_,oe5,ws5,_,_,_,_,f1,f2,f3,_⟩:=id fly5
       refine nG (wpAny_handleBy_cons (codeAny_handlers_test ?_) (by intro q;cases q))
       clear nG
       refine Calls.Name_function_global I5.ok.kind hgS (Calls.loadGlobal_global (by rw [I5.ok.glob];exact I5.mod.glob.keeps I5.bk) hmS ?_) (by decide)
       refine (exm_one (M:=model X.prog X.w) I5.kIn (TyAt.type ⟨oe5,f1,f2.1⟩) (T5.sw Sw hSw)).here ?_
       simp only [if_true]
       refine codeAny_handlers_suite_as (Yl held5 fun h6 held6 sm6 D6=>?_)
       obtain ⟨un6,hok6,fly6⟩:=RH un hok fnew e5 fno e6 frN frO held6.1 ((sm4.trans sm5).trans sm6) held6.2.2.2 e1 e11 ((D4.trans D5).trans D6)
       have I6:Inv X pins σ H' {s1 with heap:=h6}:=I.call' (s':={s1 with heap:=h6}) os un6 hok6 bare (fun b hb=>absurd hb (by simp))
       obtain ⟨_,_,oe6,ws6,_,_,_,_,g1,g2,g3,_,_,_,_,_,_,_,g11⟩:=id fly6
       have older:∀b,s.heap.get? b=none→X.s₀.heap.get? b=none:=lv.older I
       have xok:ObjOk X.prog X.w (Ao H' ae (.ext (FY Cc da ae))) h6 ae (.ext (FY Cc da ae)):=
        ⟨⟨oe6,ws6,g1,g2.1,fun d z=>g11.trans z,g3⟩,⟨oe6,g1⟩,fun ha hb' z2_ k'=>by obtain ⟨o,w',z1,z2,z3,z4⟩:=z2_;exact (⟨o,w',k' o z1,z2,z3,z4⟩)⟩
       have neL:ae≠X.env.locals:=fun z=>by
        obtain ⟨mL,⟨oL,_,_,hoL,_⟩,_⟩:=I.loc
        rw [←z,fnew] at hoL;cases hoL
       have neC:∀x c,X.env.cells.lookup x=some c→c≠ae:=fun x c ex z=>by
        obtain ⟨v,o,hoc,_⟩:=I.cell x c ex
        rw [z,fnew] at hoc;cases hoc
       have neP:∀q∈X.pn++pins,q.1≠ae:=fun q hq z=>by
        have:=(I.pin q hq).1
        rw [z,fnew] at this;cases this
       have I6':=LS.Inv.track I6 (older ae fnew) fno neL neC neP xok
       have kx:Kp H' (Ao H' ae (.ext (FY Cc da ae))):=.new fno
       refine Kw (v:=.ref ae) I6' nd hN2 (.inl S.k2) rfl (fun s7 I7 _=>?_) (.inr S.k2)
       split at p
       rename_i is his
       split at p
       ·rename_i d h2 hk2
        have hr7:HR X.K m' h1 (Ao H' ae (.ext (FY Cc da ae))):=hr'.new fno
        have er7:ER X.K m' (Ao H' ae (.ext (FY Cc da ae))) (ρ.set 2 (some (.exc n' is))) (σ.set 2 (some (.ref ae))):=
         ((er.keep p1 k1).keep (AQ _) kx).set (by simp only [DV];exact ⟨ae,Cc,da,rfl,nm,B3,fun f i z=>by
           obtain ⟨b,fv,v,q1,q2,q3,q4⟩:=xd f _ (RI his z)
           simp only [DV] at q4
           exact ⟨b,fv,q1,by rw [Au (BE q2 fno)];exact q2,by rw [q3,q4]⟩⟩)
        have hρ:2 < ρ.length:=by rw [er.1,I.len,S.N];decide
        have sx:AU (Gh X ae) E0 [.Assign [.Name "_law_word" p8] (.Call (.Name "_law_kind" p9) [.Name "_law_e" p10] [] p11) p12] (Aw 1 (Ag Fk (Aa (Ab 2) Ad))):=
         Aq (AZ (X:=Gh X ae) (i:=1) nd hN1 (Or.inl S.k1) (Yi (X:=Gh X ae) hkind (RoomM.of hr _) (Ac (Ae (X:=Gh X ae) (MQ (X:=Gh X ae) hN2 (.inl S.k2))) Af) (Gv _) hgK) (hf:=.inr S.k1))
        have post:HV (Gh X ae).K E0 (Aw 1 (Ag Fk (Aa (Ab 2) Ad))) {nx:=fun σ' H''=>Dn.nx (σ'.set 2 none) H'',rt:=fun _ _=>False} (σ.set 2 (some (.ref ae))) (Ao H' ae (.ext (FY Cc da ae))):=by
         refine ⟨m',ρ.set 2 (some (.exc n' is)),h1,hr7,er7,?_⟩
         have ev:Aw 1 (Ag Fk (Aa (Ab 2) Ad)) (ρ.set 2 (some (.exc n' is))) h1=.ok (.nx,(ρ.set 2 (some (.exc n' is))).set 1 (some d)) h2:=by
          unfold Aw Ag Aa Ad Ab
          rw [Cy hρ]
          simp only [Out.bind_ok]
          rw [hk2]
          rfl
         rw [ev]
         intro m2 H2 p2 k2 hr2 σ' er2
         refine p m2 H2 (p1.trans p2) ((k1.trans kx).trans k2) hr2 _ ⟨by simp [er2.1.symm],fun i di e=>?_⟩
         by_cases hi:2=i
         ·subst hi
          rw [Cy (by simpa using hρ)] at e
          cases e
         ·rw [BV hi] at e
          obtain ⟨v,z1,z2⟩:=er2.2 i di (by
           by_cases h1i:1=i
           ·subst h1i
            rw [Cy (by omega)] at e
            rw [Cy (by simp;omega)];exact e
           ·rw [BV h1i] at e
            rw [BV h1i,BV hi];exact e)
          exact ⟨v,by rw [BV hi];exact z1,z2⟩
        refine wpAny_mono (sx pins s7 _ _ _ (Inv.marked I7) post) (fun fl s8 h8=>?_) fun _ _ z=>False.elim z
        cases fl with
        |next=>
         obtain ⟨σ',H'',I8,q8⟩:=h8
         exact Ym (Inv.unmarked I.ok I8) nd hN2 S.k2 fun s9 I9=>⟨_,H'',I9,q8⟩
        |ret u=>obtain ⟨_,_,_,_,_,z⟩:=h8;exact False.elim z
        |brk=>obtain ⟨_,_,_,z⟩:=h8;exact False.elim z
        |cont=>obtain ⟨_,_,_,z⟩:=h8;exact False.elim z
       ·exact p.elim
       ·exact p.elim
     ·exact p.elim
    |_=>exact p.elim
  ·exact p.elim
 ·exact p.elim
end
noncomputable def N5 (Fk:List D→HD→Out D):Out D→Out D
 |.ok _ h1=>.ok (.str "told") h1
 |.err (.str n _) fs h1=>if n∈excNames then (match FK fs with
  |some is=>(match Fk [.exc n is] h1 with
   |.ok d h2=>.ok d h2
   |_=>.stuck)
  |none=>.stuck) else .stuck
 |_=>.stuck
noncomputable def DM (cs:List Nat) (Fk:List D→HD→Out D) (f:ME):ME:=fun ρ h=>match (h[0]?:Option Cell),AV (cs.map fun j=>(ρ[j]?).join) with
 |some .tab,some ds=>N5 Fk (f (ds.map some) h)
 |_,_=>.stuck
structure LSc (X:Cx) (scope:Scope) (Nc:List Str) (cs:List Nat):Prop where
 lam:LamSc scope
 nd:(scope.names.map (·.1)).Nodup
 free:(scope.names.all fun y=>y.2 != .free||(X.env.kindOf y.1==some .cell||X.env.kindOf y.1==some .free))=true
 len:cs.length=Nc.length
 out:((Nc.zip cs).all fun p=>X.N[p.2]?==some p.1&&scope.names.lookup p.1==some .free)=true
theorem LSc.at_ {X:Cx} {scope:Scope} {Nc:List Str} {cs:List Nat} (S:LSc X scope Nc cs) {i j:Nat} {x:Str} (h1:Nc[i]?=some x) (h2:cs[i]?=some j):X.N[j]?=some x∧scope.names.lookup x=some .free:=by
 have hz:(Nc.zip cs)[i]?=some (x,j):=by
  rw [List.getElem?_zip_eq_some]
  exact ⟨h1,h2⟩
 have:=qaL.mp S.out (x,j) (Gn hz)
 simpa using this
theorem LSc.fr {X:Cx} {scope:Scope} {Nc:List Str} {cs:List Nat} (S:LSc X scope Nc cs):∀y∈scope.names,y.2=.free→X.env.kindOf y.1=some .cell∨X.env.kindOf y.1=some .free:=fun y hy e=>by
 have:=qaL.mp S.free y hy
 rw [e] at this
 simpa using this
theorem RJ {K:Frag} {m:List Addr} {H:Hp} {ρ:Aj} {σ:L2.St} (er:ER K m H ρ σ):∀{cs:List Nat} {ds:List D},AV (cs.map fun j=>(ρ[j]?).join)=some ds→∃vs,DVs K m H ds vs∧vs.length=cs.length∧∀(i:Nat) (v:V),vs[i]?=some v→∃j,cs[i]?=some j∧σ[j]?=some (some v)
 |[],ds,e=>by
  simp [AV] at e
  subst e
  exact ⟨[],.nil,rfl,fun i v z=>by simp at z⟩
 |j::cs,ds,e=>by
  rw [Bu] at e
  cases ed:(ρ[j]?).join with
  |none=>rw [ed] at e;simp [AV] at e
  |some d=>
   rw [ed] at e
   simp only [AV,qaV] at e
   obtain ⟨ds',e1,rfl⟩:=e
   obtain ⟨vs,h1,h2,h3⟩:=RJ er e1
   obtain ⟨v,e2,r⟩:=er.2 j d (join_some.mp ed)
   refine ⟨v::vs,.cons r h1,by simp [h2],fun i v' z=>?_⟩
   cases i with
   |zero=>simp at z;subst z;exact ⟨j,rfl,e2⟩
   |succ i=>simpa using h3 i v' (by simpa using z)
section
variable {X:Cx} {E:XK} {c P:Addr} {Nc:List Str} {cs:List Nat} {params:Arguments} {body:Expr} {scope:Scope}
theorem Yp {α:Type} {l:List (Str×α)} {x:Str} {v:α} (h:(x,v)∈l):∃w,l.lookup x=some w:=by
 cases e:l.lookup x with
 |some w=>exact ⟨w,rfl⟩
 |none=>
  have:=List.lookup_eq_none_iff.mp e _ h
  simp at this
theorem Yq {k:Nat} {Fk:List D→HD→Out D} {f:ME} {fs:Addr} {fd:FuncData} {st:Stmt} {lpos p pos p1 p2 p3 p4 p5 p6 p7 p8 p9 p10 p11 p12 p13 p14 p15 p16:Pos} {j1:Nat} (L:LamX X c P) (fna:∀x,X.fn x=true) (hr:Room (k+2) X.A) (lv:Lv X E) (et:etOk X.K=true)
 (hsw:∃Sw,nsIn X.K mainGlobals "SwitchError"=some (some (.ref Sw)))
 (Fn:Fun X.K "_law_said" "_law_said" st fs fd) (hbd:Binds X.K fd ["_law_call"] []) (hm:X.mg "_law_said"=some (.ref fs)) (hkp:keepIn X.K (.ref fs)=true)
 (Sf:AY ["_law_call","_law_word","_law_e"] ["_law_call"] (defScope st)) (hk0:(defScope st).names.lookup ("_law_call":Str)=some .local) (hk1:(defScope st).names.lookup ("_law_word":Str)=some .local) (hk2:(defScope st).names.lookup ("_law_e":Str)=some .local)
 (hgS:∀L' cd,(envOfC "_law_said" (defScope st) L' fs cd).kindOf "SwitchError"=some .globalImplicit) (hgK:∀L' cd,(envOfC "_law_said" (defScope st) L' fs cd).kindOf "_law_kind"=some .globalImplicit)
 (hst:defBody st=[.Assign [.Name "_law_word" p1] (.Constant (.str "told") j1 p2) p3,.Try [.Expr (.Call (.Name "_law_call" p4) [] [] p5) p6] [.ExceptHandler (some (.Name "SwitchError" p7)) (some "_law_e") [.Assign [.Name "_law_word" p8] (.Call (.Name "_law_kind" p9) [.Name "_law_e" p10] [] p11) p12] p13] [] [] p14,.Return (some (.Name "_law_word" p15)) p16])
 (hkind:CaM X.prog X.w X.K X.mg X.base "_law_kind" k Fk) (hg:Gl X "_law_said") (S:LSc X scope Nc cs) (hdef:defaultsOf params X.env=([],[]))
 (hbind:∀(cl:List (Str×Addr)) (pm cv ctv:Value),bindArgs (kla_fn "<lambda>" BB params body scope cl pm cv ctv) ⟨[],[]⟩=pure [])
 (hb:∀(a:Addr) (cd:Value) (cl:List (Str×Addr)) (A:Around) (outer:List Env) (s:Shared) (H:Hp) (E':XK),Room k (A.deeper (envX BB scope s.heap.objs.size a cd cl))→Ev (FJ X.prog X.w X.K X.mg X.base Nc scope a cd cl A outer s H E') E' body f)
 (he:starEach [.Lambda params body scope lpos] X.env=(false,eval (.Lambda params body scope lpos) X.env)::starEach [] X.env:=by rfl) (hpl:(backTo pos (starEach [] X.env)).any (·.1)=false:=by rfl):
 Ev X E (.Call (.Name "_law_said" p) [.Lambda params body scope lpos] [] pos) (DM cs Fk f):=by
 rintro pins s σ H Q I ⟨m,ρ,h,hr1,er,pp⟩
 unfold DM at pp
 split at pp
 ·rename_i ds et0 eds
  obtain ⟨aP,haP,tab⟩:=hr1.at et0
  obtain ⟨⟨cc,htp⟩,tabr⟩:=id tab
  rw [L.tp] at htp
  cases htp
  obtain ⟨vs,dvs,vlen,vat⟩:=RJ er eds
  obtain ⟨cl,hclos,hcl,hcl2⟩:=Qn (scope:=scope) (env:=X.env) fun y hy hf=>I.ok.has y.1 (S.fr y hy hf)
  refine wpAny_Call_Name_kw (Gw I hg hm ?_ (by decide))
  refine PySem.W.callWith_K (h₀:=X.base) I.ok.mod.kin hkp ?_ he hpl
  rw [he]
  show wpAny _ _ (spliced ((false,eval (.Lambda params body scope lpos) X.env)::[])) _ _ s
  refine Calls.spliced_cons (Yb L I tab hdef hclos fun a c' ctv pm h' tk H' I' kp tab' same keep hsz no ob code=>?_)
  refine wpAny_pure ⟨I'.kIn,wpAny_call ?_⟩
  generalize hs1:({s with heap:=h',toks:=tk}:Shared)=s1 at I'
  have hh1:s1.heap=h':=by rw [←hs1]
  have hrN:HR X.K m h H':=hr1.tab kp same tab' tab
  have frLt:∀b∈frs X.stack,b<s.heap.objs.size:=fun b hb=>by
   obtain ⟨_,o,ho,_⟩:=I.stack.mem hb
   exact AE ho
  have cof:∀x c,cl.lookup x=some c→X.env.cells.lookup x=some c:=fun x c e=>(hcl x c (mem_of_lookup e)).1
  have hasC:∀x,scope.names.lookup x=some .free→∃c,cl.lookup x=some c:=fun x e=>by
   obtain ⟨c,hc⟩:=hcl2 _ (mem_of_lookup e) rfl
   exact Yp hc
  have C1:JR s1.heap H' X.stack Nc scope cl vs:=by
   refine ⟨by rw [vlen,S.len],fun x y c e1 e2=>I.ok.inj x y c (cof x c e1) (cof y c e2),hasC,fun x c e=>?_,fun i x v e1 e2=>?_⟩
   ·refine ⟨I'.cell x c (cof x c e),I'.freeC x c (cof x c e),fun z=>?_⟩
    rcases qa4.mp (I.stkSub c z) with z |z
    ·exact I.cne x c (cof x c e) z
    ·obtain ⟨_,o,ho,_⟩:=I.ok.funs.mem z
     exact absurd (A0 (AE ho) (I.ok.cab x c (fna x) (cof x c e))) (Dw _)
   ·obtain ⟨j,ej,sj⟩:=vat i v e2
    obtain ⟨hN,hf⟩:=S.at_ e1 ej
    have hk:=S.fr _ (mem_of_lookup hf) rfl
    obtain ⟨m0,hn0,hl0⟩:=I'.loc
    obtain ⟨u,r,lk⟩:=hl0 j x v hN sj (by rcases hk with z |z;exact .inr (.inl z);exact .inr (.inr z))
    refine ⟨hf,?_⟩
    rcases lk with ⟨z,_⟩ |⟨_,c,e3,e4⟩
    ·rcases hk with y |y<;>(rw [z] at y;cases y)
    ·obtain ⟨c2,e5⟩:=hasC x hf
     have:=cof x c2 e5
     rw [e3] at this
     cases this
     exact ⟨c,u,e5,e4,r⟩
  obtain ⟨oc,od,kV,doc,pm2,an,cdv,ct,osl,rfl,lk,hcd⟩:=Fn.ex
  have e0:=I'.env0
  have KX:X.K.In s1.heap:=I'.kIn
  have lim:s1.heap.NoLimit:=I'.nolimit
  have hkind2:∀y∈(["_law_call"]:List Str).zip [Value.ref a],(defScope st).names.lookup y.1=some .local∨((defScope st).names.lookup y.1=some .cell∧((cellsFrom (s1.heap.objs.size+1) (defScope st).names []).lookup y.1).isSome=true):=fun y hy=>by
   have:y=(("_law_call":Str),Value.ref a):=by simpa using hy
   subst this
   exact .inl hk0
  have bt:=hbd s1 [.ref a] I'.kIn rfl
  rw [Gr] at bt
  refine codeAny_mono (R:=CR (As X.prog X.w X.K) X.stack X.prog X.w H' s1 Q E) ?_ fun r s' hq=>?_
  ·refine codeAny_call_function hr.depth (KX _ _ lk) rfl Sf.co Sf.gen rfl (PySem.W.codeRec_of KX hcd) (bt _ _ _ _ ?_)
   refine wpAny_newFunctionEnv_cells Sf.kind hkind2 fun env he2 s2 x=>?_
   subst he2
   refine ⟨lim.keeps x.toInCall.keep,codeAny_func ?_⟩
   have I2:Inv (AI (As X.prog X.w X.K) X.prog X.w X.K X.mg X.base ["_law_call","_law_word","_law_e"] "_law_said" (defScope st) fs cdv X.A X.stack s1 H' E) [] (L2.start ["_law_call","_law_word","_law_e"] [.ref a]) H' s2:=
    PD Sf hr.hd e0 rfl (.cons rfl .nil) x
   obtain ⟨ps,hps,hca⟩:=code
   have tri:TriplesOk ps.toList:=by
    obtain ⟨_,ps',z1,z2,_⟩:=tab'
    rw [hps] at z1;cases z1;exact z2
   have SX:SaidX (AI (As X.prog X.w X.K) X.prog X.w X.K X.mg X.base ["_law_call","_law_word","_law_e"] "_law_said" (defScope st) fs cdv X.A X.stack s1 H' E) P a c' lpos Nc params body scope cl pm ctv vs:=
    ⟨rfl,hk0,hk1,hk2,⟨c,L.tp⟩,⟨ps,hps,tri,hca⟩,by show s1.heap.get? a=_;rw [hh1];exact ob,no,fun z=>absurd (A0 (frLt a z) hsz) (Dw _),C1⟩
   have hrS:Room (k+1) (AI (As X.prog X.w X.K) X.prog X.w X.K X.mg X.base ["_law_call","_law_word","_law_e"] "_law_said" (defScope st) fs cdv X.A X.stack s1 H' E).A:=hr.deeper _
   have bx:=Ap (AZ (X:=AI (As X.prog X.w X.K) X.prog X.w X.K X.mg X.base ["_law_call","_law_word","_law_e"] "_law_said" (defScope st) fs cdv X.A X.stack s1 H' E) (E:=E) (i:=1) (pos:=p3) (pos':=p1) Sf.nd rfl (Or.inl hk1) (B4 (x:="told") (j:=j1) (pos:=p2)))
    (Ap (Yo (p4:=p4) (p5:=p5) (p6:=p6) (p7:=p7) (p8:=p8) (p9:=p9) (p10:=p10) (p11:=p11) (p12:=p12) (p13:=p13) (p14:=p14) Iu SX hrS et hsw (hgS _ _) (hgK _ _) hkind S.lam (hbind cl pm (.ref c') ctv) (fun s H E'=>hb a (.ref c') cl _ _ s H E'))
     (Aq (AN (pos:=p16) (Ae (MQ (i:=1) (x:="_law_word") (pos:=p15) rfl (.inl hk1))))))
   rw [←hst] at bx
   have post:HV X.K E (Ak (Aw 1 (mC (.str "told"))) (Ak (Lz a vs Fk f) (Av (Ab 1)))) {nx:=fun _ H''=>Q .non H'',rt:=Q} (L2.start ["_law_call","_law_word","_law_e"] [.ref a]) H':=by
    refine ⟨m,[some (.clo a vs ds),none,none],h,hrN,?_,?_⟩
    ·refine ⟨rfl,fun i d e=>?_⟩
     match i,e with
     |0,e=>cases e;exact ⟨.ref a,rfl,by unfold DV;exact ⟨rfl,DVs.keep (AQ _) kp dvs⟩⟩
     |1,e=>cases e
     |2,e=>cases e
     |i+3,e=>cases e
    ·have p2:=Post.ahead (AQ m) kp pp
     unfold Ak Aw mC
     simp only [Out.bind_ok]
     unfold Lz
     simp only [List.set_cons_succ,List.set_cons_zero,List.getElem?_cons_zero,et0,and_self,if_true]
     unfold N5 at p2
     cases ho:f (ds.map some) h with
     |stuck=>rw [ho] at p2;exact p2.elim
     |ok d h1=>
      rw [ho] at p2
      exact fun m' H'' p1 k1 hr' v rv=>p2 v m' H'' p1 k1 hr' rv
     |err Cv fs h1=>
      rw [ho] at p2
      cases Cv with
      |str n t=>
       simp only at p2 ⊢
       split at p2
       ·rename_i hn
        simp only [hn,if_true]
        cases hi:FK fs with
        |none=>rw [hi] at p2;exact p2.elim
        |some is=>
         rw [hi] at p2
         simp only at p2 ⊢
         cases hk:Fk [.exc n is] h1 with
         |stuck=>rw [hk] at p2;exact p2.elim
         |err _ _ _=>rw [hk] at p2;exact p2.elim
         |ok d h2=>
          rw [hk] at p2
          exact fun m' H'' p1 k1 hr' v rv=>p2 v m' H'' p1 k1 hr' rv
       ·exact p2.elim
      |_=>exact p2.elim
   refine wpAny_mono (bx [] s2 _ H' _ I2 post) (fun fl s' hs=>?_) fun e s' hs=>hs
   cases fl with
   |ret u=>
    obtain ⟨v,σ',H'',J,rv,q⟩:=hs
    exact ⟨v,H'',J.os,J.bare,J.base,J.hok,rv,q⟩
   |next=>
    obtain ⟨σ',H'',J,q⟩:=hs
    exact ⟨V.non,H'',J.os,J.bare,J.base,J.hok,rfl,q⟩
   |brk=>
    obtain ⟨_,_,_,q⟩:=hs
    exact False.elim q
   |cont=>
    obtain ⟨_,_,_,q⟩:=hs
    exact False.elim q
  ·cases r with
   |error e=>exact NJ lv pins σ H' s1 e s' I' hq
   |ok fl=>
    cases fl with
    |ret u=>exact I'.after hq
    |next=>exact False.elim hq
    |brk=>exact False.elim hq
    |cont=>exact False.elim hq
 ·exact pp.elim
end
def IK (mg:Str→Option Value) (base:Heap):Prop:=∃bm o,mg "__builtins__"=some (.ref bm)∧bm≠builtinsNs∧base.get? bm=some o∧o.cls=.type "module"∧o.dict=some builtinsNs∧o.data=.plain
theorem Yr {P:Program} {w:World} {K:Frag} {mg mb:Str→Option Value} {k:Nat} {fa a c T:Addr} {fd:FuncData} {x:Str} {F:List D→HD→Out D} {s₁:Shared} {vs:List Value} {ns:List Int}
 (KX:K.In s₁.heap) (hns:s₁.heap.Ns mainGlobals mg) (hb:s₁.heap.Ns builtinsNs mb) (hbb:∀x:Str,x≠"__name__"→mb x=bootBuiltins x) (hlim:s₁.heap.NoLimit) (hg:s₁.gens=#[]) (hbm:IK mg s₁.heap)
 (ha:s₁.heap.get? a=some {cls:=.type "list",data:=.seq vs.toArray}) (hi:IntsAre vs ns) (hl:ns.length≤sizeLine) (hr:Room k callerA)
 (htp:tabP K=some (c,T)) (hcd:codeHdIn K c T=true) (hT:s₁.heap.get? T=some (tabObj #[])) (hKT:K.lookup T=none)
 (FF:∀base:Heap,K.In base→base.Ns mainGlobals mg→IK mg base→FnOk P w K mg base (As P w K) k fa fd [x] (E4 K F)) (hbind:∀(s:Shared) (u:Value),BindsTo s fd ⟨[u],[]⟩ [(x,u)])
 (hF:∃h',F [.scr ns] [.tab]=.ok (.bl true) h'):
 codeAny (model P w) callerA (.call (.ref fa) ⟨[.ref a],[]⟩) (fun r s'=>r=.ok (.ret (.bool true))∧OldK s₁.heap s'.heap∧s'.os=s₁.os∧AllBare s'.gens) s₁:=by
 have rv:=L2.vals_ints hi
 have lenV:=hi.length
 have aT:a≠T:=fun z=>by rw [z,hT] at ha;cases ha
 have core:∀H:Hp,(∀b,b=T∨H b=none∨∃o xs,H b=some (.frz o (.lst xs)))→H T=some (.tbl #[])→FzL K H a (ns.map V.int)→HOk P w H s₁.heap→(∀b,H b≠none→b=a∨b=T)→(H a≠none→K.lookup a=none)→
  codeAny (model P w) callerA (.call (.ref fa) ⟨[.ref a],[]⟩) (fun r s'=>r=.ok (.ret (.bool true))∧OldK s₁.heap s'.heap∧s'.os=s₁.os∧AllBare s'.gens) s₁:=by
  intro H hO hHT hS hok hA hK
  have base_of:∀{b:Addr} {o:Obj},s₁.heap.get? b=some o→H b=none→(EN s₁.heap H).get? b=some o:=fun e n=>Uh e n
  have noA:∀{b:Addr} {o:Obj},s₁.heap.get? b=some o→(∀its n,o.data≠.seq its n)→(∀ws,o.data≠.fields ws)→H b=none:=fun {b o} e d1 d2=>by
   cases q:H b with
   |none=>rfl
   |some u=>
    rcases hA b (by rw [q];simp) with e' |e'
    ·subst e'
     rw [ha] at e;cases e
     exact absurd rfl (d1 _ _)
    ·subst e'
     rw [hT] at e;cases e
     exact absurd rfl (d2 _)
  have nsK:∀{b:Addr} {m:Str→Option Value},s₁.heap.Ns b m→(EN s₁.heap H).Ns b m:=fun {b m} ⟨o,es,ep,e,d,r⟩=>⟨o,es,ep,base_of e (noA e (fun _ _ z=>by rw [d] at z;cases z) (fun _ z=>by rw [d] at z;cases z)),d,r⟩
  have hKb:K.In (EN s₁.heap H):=fun b o e=>base_of (KX b o e) (by
   cases q:H b with
   |none=>rfl
   |some u=>
    rcases hA b (by rw [q];simp) with e' |e'
    ·subst e'
     rw [hK (by rw [q];simp)] at e;cases e
    ·subst e'
     rw [hKT] at e;cases e)
  have hM:Mod K mg (EN s₁.heap H):=⟨hKb,nsK hns,⟨mb,nsK hb,hbb⟩,let ⟨mc,h1,h2⟩:=hlim;⟨mc,nsK h1,h2⟩⟩
  have e0:FW P w K mg (EN s₁.heap H) callerA [] s₁ H:=⟨rfl,hM,fun b o e=>Ui e,Nat.le_of_eq (Ug _ _),trivial,fun b hb=>absurd (show b∈([]:List Addr) from hb) (by simp),hok,.of_eq hg⟩
  have hBM:IK mg (EN s₁.heap H):=by
   obtain ⟨bm,o,h1,h2,h3,h4,h5,h6⟩:=hbm
   exact ⟨bm,o,h1,h2,base_of h3 (noA h3 (fun _ _ z=>by rw [h6] at z;cases z) (fun _ z=>by rw [h6] at z;cases z)),h4,h5,h6⟩
  have hsp:E4 K F [.ref a] H (fun v _=>v=.bl true) fun _ _ _=>False:=by
   obtain ⟨h',e⟩:=hF
   refine ⟨[T],[.scr ns],[.tab],⟨rfl,by simp,fun l cc b e1 e2=>?_⟩,.cons (by simp only [DV];exact ⟨a,rfl,hS⟩) .nil,?_⟩
   ·cases l with
    |zero=>
     simp at e1 e2
     subst e1 e2
     exact ⟨⟨c,htp⟩,#[],hHT,trivial,fun pos cv z=>by simp [codeAmong] at z⟩
    |succ l=>simp at e1
   ·rw [e]
    intro v m' H' _ _ _ r
    simpa [rD,DV] using r
  refine codeAny_mono ((FF _ hKb (nsK hns) hBM).run callerA [] s₁ H ⟨[.ref a],[]⟩ [.ref a] [.ref a] _ _ hr e0 (hbind s₁ (.ref a)) (.cons rfl .nil) hsp) fun r s' h=>?_
  cases r with
  |error e=>
   obtain ⟨_,_,_,_,_,_,_,_,_,_,_,_,q⟩:=h
   exact q.elim
  |ok fl=>
   cases fl with
   |next=>exact False.elim h
   |brk=>exact False.elim h
   |cont=>exact False.elim h
   |ret u=>
    obtain ⟨v,H',os,bare,un,hok',r',q⟩:=h
    have q':v=.bl true:=q
    subst q'
    obtain rfl:u=Value.bool true:=r'
    obtain ⟨more,hT'⟩:=un.tbls T _ hHT
    have hT2:s'.heap.get? T=some (tabObj (#[]++more)):=hok' T _ hT'
    have keepO:∀b o,b≠T→s₁.heap.get? b=some o→s'.heap.get? b=some o:=fun b o hbT e=>by
     cases q:H b with
     |none=>exact un.keep b o e q (by intro z;exact absurd (show b∈([]:List Addr) from z) (by simp)) (by simp)
     |some u=>
      rcases hO b with z |z |⟨ob,xs,z⟩
      ·exact absurd z hbT
      ·rw [q] at z;cases z
      ·have z2:=un.frzs b ob _ z
       obtain ⟨e1,_⟩:=hok b _ z
       obtain ⟨e2,_⟩:=hok' b _ z2
       rw [e] at e1;cases e1
       exact e2
    have hC:=codeHd_of_K KX hcd
    refine ⟨rfl,⟨fun b o e=>?_,fun b o e=>?_⟩,os,bare⟩
    ·by_cases hbT:b=T
     ·subst hbT
      rw [hT] at e
      cases e
      exact .inr (.inl ⟨(hC.tab hT).isCodeTable,rfl,#[],more,rfl,hT2⟩)
     ·exact .inl (keepO b o hbT e)
    ·by_cases hbT:b=T
     ·subst hbT;exact ⟨_,hT2⟩
     ·exact ⟨o,keepO b o hbT e⟩
 cases hk:K.lookup a with
 |some o=>
  have e:=KX a o hk
  rw [ha] at e
  cases e
  refine core (fun b=>if b=T then some (.tbl #[]) else none) (fun b=>?_) (if_pos rfl) (.inr (.inr ⟨_,vs.toArray,_,hk,rfl,rfl,rfl,by rw [A9,lenV];exact hl,by simpa using rv⟩)) (fun b u z=>?_) (fun b z=>?_) fun z=>absurd (if_neg aT) z
  ·by_cases hb:b=T
   ·exact .inl hb
   ·exact .inr (.inl (if_neg hb))
  ·by_cases hb:b=T
   ·have z':=(if_pos hb).symm.trans z
    cases z'
    subst hb
    exact hT
   ·have z':=(if_neg hb).symm.trans z
    cases z'
  ·by_cases hb:b=T
   ·exact .inr hb
   ·exact absurd (if_neg hb) z
 |none=>
  refine core (fun b=>if b=T then some (.tbl #[]) else if b=a then some (.frz {cls:=.type "list",data:=.seq vs.toArray} (.lst (ns.map V.int))) else none) (fun b=>?_) (if_pos rfl) (.inl ⟨{cls:=.type "list",data:=.seq vs.toArray},(if_neg aT).trans (if_pos rfl)⟩) (fun b u z=>?_) (fun b z=>?_) fun _=>hk
  ·by_cases hb:b=T
   ·exact .inl hb
   ·by_cases hba:b=a
    ·exact .inr (.inr ⟨_,_,(if_neg hb).trans (if_pos hba)⟩)
    ·exact .inr (.inl ((if_neg hb).trans (if_neg hba)))
  ·by_cases hb:b=T
   ·have z':=(if_pos hb).symm.trans z
    cases z'
    subst hb
    exact hT
   ·have z1:=(if_neg hb).symm.trans z
    by_cases hba:b=a
    ·have z':=(if_pos hba).symm.trans z1
     cases z'
     subst hba
     exact ⟨ha,by rw [CA];exact hl,vs,_,rv,ha⟩
    ·have z':=(if_neg hba).symm.trans z1
     cases z'
  ·by_cases hb:b=T
   ·exact .inr hb
   ·by_cases hba:b=a
    ·exact .inl hba
    ·exact absurd ((if_neg hb).trans (if_neg hba)) z
open AutoSeq1 (wpAny_loadPart')
theorem Ys:fillsNumberSlot (.type "tuple") "mul"=pure false:=by
 first |exact noFill_tuple_mul' |(unfold fillsNumberSlot;kernel_rfl)
theorem Yt:seqRepeat? (.type "tuple")=pure (some (.builtin "tuple.__mul__")):=by
 unfold seqRepeat?
 rw [PySem.seqSlot_of (T:="tuple") (name:="__mul__") (id:="tuple.__mul__") F.slot_tuple_mul.lookup (by decide +kernel),PySem.seqSlot_of (T:="tuple") (name:="__rmul__") (id:="tuple.__rmul__") (by rw [typeLookup_type,builtinLookup_eq_fast];kernel_rfl) (by decide +kernel)]
 rfl
theorem Yu (a:Int) (t:Tok) (l:Addr) (items:Array Value) (n:Nat) (dd:Option Addr) (sl:Array (Option Value)):
 Meets (Builtin.«int.__rmul__» ⟨[.int a t,.ref l],[]⟩) (fun _ R s=>s.heap.get? l=some {cls:=.type "tuple",dict:=dd,data:=.seq items n,slots:=sl}∧R (.ok (.ret Value.notImplemented)) s):=
 .of_wp fun prog w A R s h=>by
  obtain ⟨hp,g,d,tk,os⟩:=s;obtain ⟨hl,h⟩:=h
  wp_walk;exact ⟨_,rfl,h⟩
theorem Yv (l:Addr) (items:Array Value) (n:Nat) (dd:Option Addr) (sl:Array (Option Value)) (x:Int) (u:Tok) (h1:1<x) (h2:x<2^63) (hne:items.isEmpty=false) (hz:items.size*x.toNat≤sizeLine):
 Meets (Builtin.«tuple.__mul__» ⟨[.ref l,.int x u],[]⟩) (fun _ R s=>s.heap.get? l=some {cls:=.type "tuple",dict:=dd,data:=.seq items n,slots:=sl}∧R (.ok (.ret (Value.ref s.heap.objs.size))) {s with heap:=s.heap.push {cls:=Value.type "tuple",data:=Data.seq (List.foldl (fun x1 x2=>x1++x2) #[] (List.replicate x.toNat items))}}):=
 .of_wp fun prog w A R s h=>by
  obtain ⟨hp,g,d,tk,os⟩:=s;obtain ⟨hl,h⟩:=h
  have c1:(decide (x < -2^63)||decide (x≥2^63))=false:=by simp;omega
  have c2:(items.isEmpty||x==1)=false:=by
   rw [hne,Bool.false_or]
   exact beq_eq_false_iff_ne.mpr (by omega)
  have c3:(decide (x≤0)||items.isEmpty)=false:=by
   rw [hne,Bool.or_false]
   exact decide_eq_false (by omega)
  have hx:(x.toNat:Int)=x:=Int.toNat_of_nonneg (by omega)
  have hz':(items.size:Int)*x≤sizeLine:=by rw [←hx];exact_mod_cast hz
  have c4:¬((items.size:Int)*x>(2^63 - 1) / 8):=by
   have:(sizeLine:Int)≤(2^63 - 1) / 8:=by decide
   omega
  have c5:Builtin.Tuple.tupleTooMany ((items.size:Int)*x)=false:=by
   unfold Builtin.Tuple.tupleTooMany
   exact decide_eq_false (by omega)
  have c6:(List.foldl (fun x1 x2=>x1++x2) #[] (List.replicate x.toNat items)).size≤sizeLine:=by
   have f0:=KJ items.toList x.toNat []
   rw [Kr] at f0
   have:List.foldl (fun x1 x2=>x1++x2) #[] (List.replicate x.toNat items)=(List.replicate x.toNat items.toList).flatten.toArray:=by simpa using f0
   rw [this,A9,KL,Nat.mul_comm]
   simpa using hz
  wp_walk using wpAny_loadPart' hl
  rw [c1]
  simp only [B2,if_false]
  refine wpAny_bind ?_
  unfold Builtin.Tuple.tupleItemsOf
  wp_walk using wpAny_loadPart' hl
  rw [c2]
  simp only [B2,if_false]
  rw [c3]
  simp only [B2,if_false]
  rw [if_neg c4,c5]
  simp only [B2,if_false]
  refine wpAny_bind (wpAny_newObj_type (wpAny_pure ⟨_,rfl,h⟩) c6)
theorem Yw (l:Addr) (items:Array Value) (n:Nat) (dd:Option Addr) (sl:Array (Option Value)) (u:Tok):
 Meets (Builtin.«tuple.__mul__» ⟨[.ref l,.int 1 u],[]⟩) (fun _ R s=>s.heap.get? l=some {cls:=.type "tuple",dict:=dd,data:=.seq items n,slots:=sl}∧R (.ok (.ret (Value.ref l))) s):=
 .of_wp fun prog w A R s h=>by
  obtain ⟨hp,g,d,tk,os⟩:=s;obtain ⟨hl,h⟩:=h
  have c1:(decide ((1:Int) < -2^63)||decide ((1:Int)≥2^63))=false:=by decide
  have c2:(items.isEmpty||(1:Int)==1)=true:=by simp
  wp_walk using wpAny_loadPart' hl
  exact ⟨_,rfl,h⟩
theorem Yx (l:Addr) (items:Array Value) (n:Nat) (dd:Option Addr) (sl:Array (Option Value)) (x:Int) (u:Tok) (h1:-(2^63)≤x) (h2:x≤0) (hne:items.isEmpty=false):
 Meets (Builtin.«tuple.__mul__» ⟨[.ref l,.int x u],[]⟩) (fun _ R s=>s.heap.get? l=some {cls:=.type "tuple",dict:=dd,data:=.seq items n,slots:=sl}∧R (.ok (.ret (Value.ref s.heap.objs.size))) {s with heap:=s.heap.push {cls:=Value.type "tuple",data:=Data.seq #[]}}):=
 .of_wp fun prog w A R s h=>by
  obtain ⟨hp,g,d,tk,os⟩:=s;obtain ⟨hl,h⟩:=h
  have c1:(decide (x < -2^63)||decide (x≥2^63))=false:=by simp;omega
  have c2:(items.isEmpty||x==1)=false:=by
   rw [hne,Bool.false_or]
   exact beq_eq_false_iff_ne.mpr (by omega)
  have c3:(decide (x≤0)||items.isEmpty)=true:=by
   rw [hne,Bool.or_false]
   exact decide_eq_true h2
  wp_walk using wpAny_loadPart' hl
  rw [c1]
  simp only [B2,if_false]
  refine wpAny_bind ?_
  unfold Builtin.Tuple.tupleItemsOf
  wp_walk using wpAny_loadPart' hl
  rw [c2]
  simp only [B2,if_false]
  rw [c3]
  simp only [if_true]
  refine wpAny_bind (wpAny_newObj_type (wpAny_pure ⟨_,rfl,h⟩) (by show (#[]:Array Value).size≤sizeLine;simp))
section
variable {X:Cx} {E:XK}
def Yy (K:Frag):R2:=fun x y H Q=>∃l k xs,x=.ref l∧y=.int k∧H l=some (.tup xs)∧xs≠[]∧-(2^63)≤k∧k<2^63∧xs.length*k.toNat≤sizeLine∧(k=1→Q (.ref l) H)∧
 ∀p,H p=none→Q (.ref p) (Ao H p (.tup (List.replicate k.toNat xs).flatten))
theorem Inv.tnew {pins:List (Addr×Obj)} {σ:L2.St} {H:Hp} {s:Shared} {ys:List V} {its:List Value} {t':Nat} (I:Inv X pins σ H s) (hv:Vals ys its) (hz:ys.length≤sizeLine):
 Inv X pins σ (Ao H s.heap.objs.size (.tup ys)) {s with heap:=s.heap.push {cls:=.type "tuple",data:=.seq its.toArray},toks:=t'}:=
 I.laid (fun _ _ q=>AB _ q) (AF _) ⟨hz,its,hv,⟨_,A7 _ rfl,rfl,0,rfl⟩,NoDict.new⟩
theorem op_repT:OpR X (binaryOp .Mult) (Yy X.K):=by
 intro pins s σ H x y v u Q I rx ry h
 obtain ⟨l,k,xs,rfl,rfl,hH,hne,h1,h2,hz,q1,q⟩:=h
 cases rx
 obtain ⟨t,rfl⟩:=ry
 obtain ⟨z,its,r,⟨o,ho,hc,n,hd⟩,_⟩:=(show ObjOk X.prog X.w H s.heap l (.tup xs) from I.hok l _ hH)
 obtain ⟨oc,dd,dat,sl⟩:=o
 simp only at hc hd
 subst hc hd
 have hl:=r.length
 have hine:its.toArray.isEmpty=false:=by
  cases its with
  |nil=>exfalso;cases xs with
   |nil=>exact hne rfl
   |cons _ _=>simp at hl
  |cons a b=>simp
 have mul:∀{Q':Value→Shared→Prop},wpAny (model X.prog X.w) X.A (call (.builtin "tuple.__mul__") [.ref l,.int k t]) Q' X.xe s→wpAny (model X.prog X.w) X.A (binaryOp .Mult (.ref l) (.int k t)) Q' X.xe s:=fun {Q'} hq=>
  wpAny_binaryOp_repeat_ref (T:="tuple") (U:="int") (by decide) ⟨_,ho,rfl⟩ (fun s'=>typeIs_int s' k t) Ys F.fills_int_mul F.slot_int_rmul Yt F.slot_int_index.lookup
   (call_meets F.slot_int_rmul (typeIs_int s k t) F.entry_int_rmul (F.args_int_rmul_2 _ _) (Yu k t l its.toArray n dd sl) ⟨ho,rfl,⟨_,ho,rfl⟩,hq⟩)
 refine mul ?_
 rcases Int.lt_trichotomy k 1 with hk |hk |hk
 ·refine call_meets F.slot_tuple_mul ⟨_,ho,rfl⟩ F.entry_tuple_mul (F.args_tuple_mul_2 _ _) (Yx l its.toArray n dd sl k t h1 (by omega) hine) ⟨ho,?_⟩
  have e:(List.replicate k.toNat xs).flatten=[]:=by
   have:k.toNat=0:=by omega
   rw [this];rfl
  have:=q _ I.fresh
  rw [e] at this
  exact ⟨.ref _,_,LS.Inv.tnew (its:=[]) (t':=s.toks) I .nil (DE _),rfl,this⟩
 ·subst hk
  refine call_meets F.slot_tuple_mul ⟨_,ho,rfl⟩ F.entry_tuple_mul (F.args_tuple_mul_2 _ _) (Yw l its.toArray n dd sl t) ⟨ho,?_⟩
  exact ⟨.ref l,H,I,rfl,q1 rfl⟩
 ·refine call_meets F.slot_tuple_mul ⟨_,ho,rfl⟩ F.entry_tuple_mul (F.args_tuple_mul_2 _ _) (Yv l its.toArray n dd sl k t hk h2 hine (by rw [A9,←hl];exact hz)) ⟨ho,?_⟩
  have f0:=KJ its k.toNat []
  rw [Kr] at f0
  have f1:List.foldl (fun x1 x2=>x1++x2) #[] (List.replicate k.toNat its.toArray)=(List.replicate k.toNat its).flatten.toArray:=f0
  rw [f1]
  exact ⟨.ref _,_,LS.Inv.tnew (t':=s.toks) I (r.rep k.toNat) (by rw [KL,Nat.mul_comm];exact hz),rfl,q _ I.fresh⟩
noncomputable def Cf:D→D→HD→Out D:=fun x y h=>match x,y with
 |.tup xs,.int k=>@ite _ (xs≠[]∧-(2^63)≤k∧k<2^63∧xs.length*k.toNat≤sizeLine) (Classical.propDecidable _) (.ok (.tup (List.replicate k.toNat xs).flatten) h) .stuck
 |_,_=>DJ x y h
theorem DN:Bz X (binaryOp .Mult) Cf:=by
 obtain ⟨r0,hr0,i0⟩:=WX (X:=X)
 refine ⟨_,op_repT.or hr0,fun m H h E x y v u Q hr rx ry q=>?_⟩
 unfold Cf at q
 split at q
 ·rename_i xs k
  split at q
  ·rename_i hc
   obtain ⟨hne,h1,h2,hz⟩:=hc
   simp only [DV] at rx ry
   obtain ⟨a,vs,rfl,ha,dv⟩:=rx
   subst ry
   refine .inl ⟨a,k,vs,rfl,rfl,ha,?_,h1,h2,by rw [←dv.len];exact hz,fun e=>?_,?_⟩
   ·intro e;have:=dv.len;rw [e] at this;exact hne (qbI.mp this)
   ·subst e
    refine Bo hr q ?_
    simp only [DV]
    exact ⟨a,vs,rfl,ha,by simpa using dv⟩
   ·exact GE hr (DVs.rep dv k.toNat) q
  ·exact q.elim
 ·exact .inr (i0 m H h E x y v u Q hr rx ry q)
end
end LS
namespace LS
open PySem PySem.Spec PyProof.Rows L2 PySem.W
section
variable {X:Cx} {E:XK}
abbrev MJ:=Str→Aj→HD→Out Str
def Yz:MJ:=fun acc _ h=>if acc.length≤sizeLine then .ok acc h else .stuck
def YA (y:Str) (r:MJ):MJ:=fun acc ρ h=>if (acc++y).length≤sizeLine then r (acc++y) ρ h else .stuck
def RK (f:ME) (r:MJ):MJ:=fun acc ρ h=>(f ρ h).bind fun d h1=>match d with
 |.int i=>if i.natAbs.log2<1920∧(acc++(toString i:Str)).length≤sizeLine then r (acc++(toString i:Str)) ρ h1 else .stuck
 |_=>.stuck
def N6 (fj:MJ):ME:=fun ρ h=>(fj Str.empty ρ h).bind fun x h1=>.ok (.str x) h1
def Ds:D→HD→Out D:=fun x h=>match AS h 8 x with
 |some p=>if p.showable=true∧p.hasDict=false∧p.depth≤40∧p.shown.length≤sizeLine then .ok (.str p.shown) h else .stuck
 |none=>.stuck
theorem LA (hu:X.A.units+64<cLine) (hg:X.A.guards=some []):Do X (.builtin "repr") (An Ds):=by
 refine Rz (fun ds h=>?_) fun pins s σ H m h ds vs us Q I hr rd r q=>F6 rd q fun x v ev rx q=>?_
 ·unfold An Ds
  repeat' split
  all_goals trivial
 ·subst ev
  obtain ⟨u,rfl,ru⟩:=DY r
  unfold Ds at q
  split at q
  ·rename_i p e
   split at q
   ·rename_i hc
    obtain ⟨h1,h2,h3,h4⟩:=hc
    obtain ⟨as,hd⟩:=Nj I.hok hr 8 x v u p rx ru e
    have A1:∀(h':Heap) (t tk:Tok),(∀b o,s.heap.get? b=some o→h'.get? b=some o)→EP X pins σ Q (.str p.shown t) {s with heap:=h',toks:=tk}:=fun h' t tk hk=>⟨.str p.shown,H,I.kept hk,⟨t,rfl⟩,Bo hr q (by simp [DV])⟩
    cases hd with
    |list a1 a2 a3 a4=>exact repr_of_reads' (.list a1 a2 a3 a4) h1 (fun z=>by rw [h2] at z;cases z) hg (by omega) (fun _ _ e=>e) A1 h4
    |tuple a1 a2 a3 a4=>exact repr_of_reads' (.tuple a1 a2 a3 a4) h1 (fun z=>by rw [h2] at z;cases z) hg (by omega) (fun _ _ e=>e) A1 h4
    |dict a1 a2 a3 a4 a5=>cases h2
    |int i t=>
     have h1':i.natAbs.log2<1920:=by simpa [PyData.showable] using h1
     exact PySem.P.repr_of_int h1' (A1 s.heap _ _ fun _ _ e=>e)
    |none=>exact PySem.P.repr_of_none (A1 s.heap _ _ fun _ _ e=>e)
    |bool b=>exact PySem.P.repr_of_bool (A1 s.heap _ _ fun _ _ e=>e)
    |str x t=>exact PySem.P.repr_of_str (A1 s.heap _ _ fun _ _ e=>e) (by simpa [PyData.shown] using h4)
   ·exact q.elim
  ·exact q.elim
def CH:D→D→HD→Out D:=fun x y h=>match x,y with
 |.str a,.str b=>.ok (.bl (a==b)) h
 |_,_=>GF x y h
def BC:D→D→HD→Out D:=fun x y h=>match x,y with
 |.str a,.str b=>.ok (.bl (!(a==b))) h
 |_,_=>DF x y h
theorem FL (hu:X.A.units+64<cLine):Bz X (compareOp .Eq) CH:=by
 obtain ⟨r0,hr0,i0⟩:=Wr (X:=X) hu
 refine ⟨_,op_eq.or hr0,fun m H h E x y v u Q hr rx ry q=>?_⟩
 unfold CH at q
 split at q
 ·simp only [DV] at rx ry
  subst rx ry
  exact .inl ⟨rfl,by rw [KB];exact Bo hr q (by simp [DV])⟩
 ·exact .inr (i0 m H h E x y v u Q hr rx ry q)
theorem Ew (hu:X.A.units+64<cLine):Bz X (compareOp .NotEq) BC:=by
 obtain ⟨r0,hr0,i0⟩:=Ws (X:=X) hu
 refine ⟨_,op_ne.or hr0,fun m H h E x y v u Q hr rx ry q=>?_⟩
 unfold BC at q
 split at q
 ·simp only [DV] at rx ry
  subst rx ry
  exact .inl ⟨rfl,by rw [KB];exact Bo hr q (by simp [DV])⟩
 ·exact .inr (i0 m H h E x y v u Q hr rx ry q)
def LC:List Nat→List D→Aj→Option Aj
 |[],[],ρ=>some ρ
 |i::is,d::ds,ρ=>LC is ds (ρ.set i (some d))
 |_,_,_=>none
def GS (is:List Nat):MG:=fun d ρ=>match d with
 |.tup ds=>LC is ds ρ
 |_=>none
def N7:List Nat→FV
 |[]=>Gy
 |i::is=>DX (De i) (N7 is)
theorem RL:∀{is:List Nat} {ds:List D} {ρ ρ':Aj},LC is ds ρ=some ρ'→ds.length=is.length
 |[],[],_,_,_=>rfl
 |[],_::_,_,_,e=>by cases e
 |_::_,[],_,_,e=>by cases e
 |_::is,_::ds,_,_,e=>by simpa using RL (is:=is) (ds:=ds) e
theorem RM {K:Frag} {m:List Addr} {H:Hp}:∀{is:List Nat} {ds:List D} {vs:List V} {ρ ρ':Aj} {σ:L2.St} {Q:L2.St→Hp→Prop},DVs K m H ds vs→ER K m H ρ σ→LC is ds ρ=some ρ'→(∀σ',ER K m H ρ' σ'→Q σ' H)→N7 is vs σ H Q
 |[],[],vs,ρ,ρ',σ,Q,r,er,e,q=>by
  simp only [DVs] at r
  subst r
  cases e
  exact ⟨rfl,q σ er⟩
 |[],_::_,_,_,_,_,_,_,_,e,_=>by cases e
 |_::_,[],_,_,_,_,_,_,_,e,_=>by cases e
 |i::is,d::ds,vs,ρ,ρ',σ,Q,r,er,e,q=>by
  simp only [DVs] at r
  obtain ⟨v,w,rfl,rv,rw'⟩:=r
  exact ⟨v,w,rfl,RM rw' (er.set rv) e q⟩
theorem RN {es:List Expr} {is:List Nat} {kt:Nat} {pos:Pos} (h:PG X (.Tuple es kt pos) (Gz X.K is.length (N7 is))):Jx X (.Tuple es kt pos) (GS is):=⟨_,h,fun m H d v ρ σ ρ' Q r er e q=>by
 unfold GS at e
 split at e
 ·rename_i ds
  simp only [DV] at r
  obtain ⟨p,vs,rfl,hp,dv⟩:=r
  exact ⟨p,vs,rfl,SqT.of hp,by rw [←dv.len];exact RL e,RM dv er e q⟩
 ·cases e⟩
end
theorem N8 {K:Frag} (h:etOk K=true) {n:Str} (hn:n∈excNames):∃C,nsIn K mainGlobals n=some (some (.ref C)):=by
 unfold etOk at h
 split at h
 ·rename_i S hS
  have h1:=qaL.mp h n hn
  cases e:E7 K n with
  |none=>rw [e] at h1;cases h1
  |some C=>exact ⟨C,Rx e⟩
 ·cases h
section
variable {X:Cx} {E:XK}
theorem E8 {x:Str} {pos:Pos} (et:etOk X.K=true) (hn:x∈excNames) (hg:Gl X x:=by rfl) (hd:(x==("__debug__":Str))=false:=by decide):Ev X E (.Name x pos) (mC (.glo x)):=by
 obtain ⟨a,h⟩:=N8 et hn
 exact Ry hg h hd
theorem RO {x:Str} {e:Expr} {es:List Expr} {fa:MA} {np cpos pos:Pos} (et:etOk X.K=true) (hn:x∈excNames) (hne:x≠"TooMany") (hg:Gl X x) (hc:X.calm=true) (th:NM X E) (ha:CS X E (e::es) fa)
 (hdb:(x==("__debug__":Str))=false:=by decide) (he:starEach (e::es) X.env=(false,eval e X.env)::starEach es X.env:=by rfl) (hpl:(backTo cpos (starEach (e::es) X.env)).any (·.1)=false:=by rfl):
 Ex X E (.Raise (some (.Call (.Name x np) (e::es) [] cpos)) none pos) (Iv x fa):=by
 obtain ⟨C,h⟩:=N8 et hn
 exact Xn ((Lx et hn h).at_ hne) h hg hc th ha hdb he hpl
end
theorem CaM.mono {P:Program} {w:World} {K:Frag} {mg:Str→Option Value} {base:Heap} {x:Str} {j k:Nat} {F:List D→HD→Out D} (C:CaM P w K mg base x j F) (h:j≤k):CaM P w K mg base x k F:=by
 obtain ⟨f,fd,ps,G,r⟩:=C.ex
 exact ⟨f,fd,ps,⟨fun A outer s H args us vs Q hr=>G.run A outer s H args us vs Q (hr.mono h)⟩,r⟩
structure SaidD (K:Frag) (mg:Str→Option Value) (st:Stmt) (fs:Addr) (fd:FuncData):Prop where
 fn:Fun K "_law_said" "_law_said" st fs fd
 bd:Binds K fd ["_law_call"] []
 mg:mg "_law_said"=some (.ref fs)
structure RP (st:Stmt):Prop where
 sc:AY ["_law_call","_law_word","_law_e"] ["_law_call"] (defScope st)
 k0:(defScope st).names.lookup ("_law_call":Str)=some .local
 k1:(defScope st).names.lookup ("_law_word":Str)=some .local
 k2:(defScope st).names.lookup ("_law_e":Str)=some .local
 gS:(defScope st).names.lookup ("SwitchError":Str)=some .globalImplicit
 gK:(defScope st).names.lookup ("_law_kind":Str)=some .globalImplicit
 tx:∃p1 j1 p2 p3 p4 p5 p6 p7 p8 p9 p10 p11 p12 p13 p14 p15 p16,defBody st=[.Assign [.Name "_law_word" p1] (.Constant (.str "told") j1 p2) p3,.Try [.Expr (.Call (.Name "_law_call" p4) [] [] p5) p6] [.ExceptHandler (some (.Name "SwitchError" p7)) (some "_law_e") [.Assign [.Name "_law_word" p8] (.Call (.Name "_law_kind" p9) [.Name "_law_e" p10] [] p11) p12] p13] [] [] p14,.Return (some (.Name "_law_word" p15)) p16]
theorem N9 {X:Cx} {E:XK} {c P:Addr} {Nc:List Str} {cs:List Nat} {params:Arguments} {body:Expr} {scope:Scope} {k kk:Nat} {Fk:List D→HD→Out D} {f:ME} {fs:Addr} {fd:FuncData} {st:Stmt} {lpos p pos:Pos}
 (L:LamX X c P) (fna:∀x,X.fn x=true) (hr:Room kk X.A) (lv:Lv X E) (et:etOk X.K=true) (Sd:SaidD X.K X.mg st fs fd) (St:RP st) (hkind:CaM X.prog X.w X.K X.mg X.base "_law_kind" k Fk) (S:LSc X scope Nc cs)
 (hb:∀(a:Addr) (cd:Value) (cl:List (Str×Addr)) (A:Around) (outer:List Env) (s:Shared) (H:Hp) (E':XK),Room k (A.deeper (envX BB scope s.heap.objs.size a cd cl))→Ev (FJ X.prog X.w X.K X.mg X.base Nc scope a cd cl A outer s H E') E' body f)
 (hg:Gl X "_law_said") (hkk:k+2≤kk:=by decide) (hdef:defaultsOf params X.env=([],[]):=by rfl)
 (hbind:∀(cl:List (Str×Addr)) (pm cv ctv:Value),bindArgs (kla_fn "<lambda>" BB params body scope cl pm cv ctv) ⟨[],[]⟩=pure []:=by exact fun _ _ _ _=>rfl)
 (he:starEach [.Lambda params body scope lpos] X.env=(false,eval (.Lambda params body scope lpos) X.env)::starEach [] X.env:=by rfl) (hpl:(backTo pos (starEach [] X.env)).any (·.1)=false:=by rfl):
 Ev X E (.Call (.Name "_law_said" p) [.Lambda params body scope lpos] [] pos) (DM cs Fk f):=by
 obtain ⟨p1,j1,p2,p3,p4,p5,p6,p7,p8,p9,p10,p11,p12,p13,p14,p15,p16,hst⟩:=St.tx
 exact Yq L fna (hr.mono hkk) lv et (N8 et (by decide +kernel)) Sd.fn Sd.bd Sd.mg Sd.fn.kp St.sc St.k0 St.k1 St.k2 (fun _ _=>St.gS) (fun _ _=>St.gK) hst hkind hg S hdef hbind hb he hpl
theorem YB {P:Program} {w:World} {K:Frag} {mg:Str→Option Value} {base:Heap} {x qual:Str} {st:Stmt} {f:Addr} {kV doc pm cdv ct oc:Value} {an od:Option Addr} {osl:Array (Option Value)} {N ps:List Str} {k:Nat} {F:List D→HD→Out D} {g:MS}
 (lk:K.lookup f=some ⟨oc,od,.func (PySem.W.fnOf x qual (defArgs st) (defBody st) (defScope st) .none kV doc pm an cdv ct),osl⟩) (hcd:PySem.W.codeIn K cdv qual=true) (S:AY N ps (defScope st)) (ar:Ar ps.length F)
 (hg:∀ds h,ds.length=ps.length→F ds h=Am N.length g ds h)
 (hbody:∀(A:Around) (outer:List Env) (s:Shared) (H:Hp) (E:XK),Room k (A.deeper (envOfC qual (defScope st) s.heap.objs.size f cdv))→AU (AI (As P w K) P w K mg base N qual (defScope st) f cdv A outer s H E) E (defBody st) g):
 FnOk P w K mg base (As P w K) (k+1) f (PySem.W.fnOf x qual (defArgs st) (defBody st) (defScope st) .none kV doc pm an cdv ct) ps (E4 K F):=by
 refine PF lk hcd S (fun vs H Q E h=>Lo ar h) fun A outer s H vs Q E hr h=>?_
 refine ⟨_,hbody A outer s H E hr,?_⟩
 have hl:=Lo ar h
 obtain ⟨m,ds,hd,hr1,r,p⟩:=h
 have hld:ds.length=ps.length:=by rw [r.len];exact hl
 refine ⟨m,ds.map some++List.replicate (N.length - ds.length) none,hd,hr1,ER.start r,?_⟩
 rw [hg ds hd hld] at p
 unfold Am at p
 cases o:g (ds.map some++List.replicate (N.length - ds.length) none) hd with
 |stuck=>rw [o] at p;exact p
 |err C fs h1=>rw [o] at p;exact p
 |ok a h1=>
  rw [o] at p
  obtain ⟨fl,ρ1⟩:=a
  intro m1 H1 p1 k1 hr1
  cases fl with
  |nx=>exact fun σ er=>p .non m1 H1 p1 k1 hr1 (by simp [rD,DV])
  |bk=>exact False.elim p
  |ct=>exact False.elim p
  |rt d=>exact fun v rv=>p v m1 H1 p1 k1 hr1 rv
def Zes (K:Frag) (T:Addr):Bool:=match tabP K with
 |some (c,T')=>T'==T&&codeHdIn K c T
 |none=>false
end LS
namespace LS
open PySem PySem.Spec PyProof.Rows L2
def We {α:Type} (o:Out α) (Q:α→HD→Prop) (R:Str→List (Str×D)→HD→Prop):Prop:=match o with
 |.ok a h=>Q a h
 |.err (.str n _) fs h=>R n fs h
 |_=>False
section
variable {α β:Type} {o:Out α} {Q Q':α→HD→Prop} {R R':Str→List (Str×D)→HD→Prop}
@[simp] theorem Zet (a:α) (h:HD):We (.ok a h) Q R=Q a h:=rfl
@[simp] theorem Zeu (n:Str) (t:Tok) (fs:List (Str×D)) (h:HD):We (.err (.str n t) fs h:Out α) Q R=R n fs h:=rfl
@[simp] theorem Zev:We .stuck Q R=False:=rfl
theorem Cg {k:α→HD→Out β} {Q:β→HD→Prop}:We (o.bind k) Q R=We o (fun a h=>We (k a h) Q R) R:=by
 cases o with
 |ok a h=>rfl
 |err C fs h=>cases C<;>rfl
 |stuck=>rfl
theorem Wp.we (h:Wp o Q):We o Q R:=by
 cases o with
 |ok a h'=>exact h
 |_=>exact h.elim
theorem We.mono (h:We o Q R) (f:∀a h,Q a h→Q' a h) (g:∀n fs h,R n fs h→R' n fs h):We o Q' R':=by
 cases o with
 |ok a h'=>exact f _ _ h
 |err C fs h'=>cases C<;>first |exact g _ _ _ h |exact h.elim
 |stuck=>exact h
theorem Pu.we {h:HD} {a:α} (p:Pu o h a) (k:∀h',Sm h h'→Q a h'):We o Q R:=Wp.we (p.wp k)
end
def Er {α:Type} (o:Out α) (h:HD) (n:Str):Prop:=We o (fun _ _=>False) fun n' fs h'=>n'=n∧fs=[]∧Sm h h'
theorem Er.we {α:Type} {o:Out α} {h:HD} {n:Str} {Q:α→HD→Prop} {R:Str→List (Str×D)→HD→Prop} (e:Er o h n) (k:∀h',Sm h h'→R n [] h'):We o Q R:=We.mono e (fun _ _ z=>z.elim) fun n' fs h' z1_=>by obtain ⟨rfl,rfl,s⟩:=z1_;exact k h' s
theorem Ey {N:Nat} {g:MS} {ds:List D} {h:HD} {Q:D→HD→Prop} {R:Str→List (Str×D)→HD→Prop}:We (Am N g ds h) Q R=We (g (ds.map some++List.replicate (N - ds.length) none) h) (JE Q) R:=by
 unfold Am
 cases o:g (ds.map some++List.replicate (N - ds.length) none) h with
 |ok a h1=>
  obtain ⟨fl,ρ⟩:=a
  cases fl<;>rfl
 |err C fs h1=>cases C<;>rfl
 |stuck=>rfl
section
variable {ρ:Aj} {h:HD} {Q:Fl×Aj→HD→Prop} {QD:D→HD→Prop} {QB:Bool→HD→Prop} {R:Str→List (Str×D)→HD→Prop} {g g1 g2:MS} {f:ME} {t:MT} {fa:MA} {F:List D→HD→Out D}
def Oa (g2:MS) (Q:Fl×Aj→HD→Prop) (R:Str→List (Str×D)→HD→Prop):Fl×Aj→HD→Prop
 |(.nx,ρ),h=>We (g2 ρ h) Q R
 |y,h=>Q y h
@[simp] theorem Zew:Oa g2 Q R (.nx,ρ) h=We (g2 ρ h) Q R:=rfl
@[simp] theorem Zex {d:D}:Oa g2 Q R (.rt d,ρ) h=Q (.rt d,ρ) h:=rfl
@[simp] theorem Zey:We (Ak g1 g2 ρ h) Q R=We (g1 ρ h) (Oa g2 Q R) R:=by
  unfold Ak
  rw [Cg]
  congr 1
  funext x h1
  obtain ⟨fl,ρ1⟩:=x
  cases fl<;>rfl
@[simp] theorem Zez:We (Bp ρ h) Q R=Q (.nx,ρ) h:=rfl
@[simp] theorem ZeA:We (Dp f ρ h) Q R=We (f ρ h) (fun _ h1=>Q (.nx,ρ) h1) R:=by unfold Dp;rw [Cg];rfl
@[simp] theorem YC:We (Av f ρ h) Q R=We (f ρ h) (fun d h1=>Q (.rt d,ρ) h1) R:=by unfold Av;rw [Cg];rfl
@[simp] theorem ZeB {i:Nat}:We (Aw i f ρ h) Q R=We (f ρ h) (fun d h1=>Q (.nx,ρ.set i (some d)) h1) R:=by unfold Aw;rw [Cg];rfl
@[simp] theorem ZeC:We (Bh t g1 g2 ρ h) Q R=We (t ρ h) (fun b h1=>We (if b=true then g1 ρ h1 else g2 ρ h1) Q R) R:=by unfold Bh;rw [Cg]
@[simp] theorem RQ:We (Ag F fa ρ h) QD R=We (fa ρ h) (fun ds h1=>We (F ds h1) QD R) R:=by unfold Ag;rw [Cg]
@[simp] theorem ZeD {n:Str}:We (Iv n fa ρ h) Q R=We (fa ρ h) (fun xs h1=>We (if xs.length≤sizeLine then (.err (Es n) [] h1:Out (Fl×Aj)) else .stuck) Q R) R:=by unfold Iv;rw [Cg]
@[simp] theorem ZeE:We (BS t ρ h) QB R=We (t ρ h) (fun b h1=>QB (!b) h1) R:=by unfold BS;rw [Cg];rfl
@[simp] theorem ZeF {u:MT}:We (KP t u ρ h) QB R=We (t ρ h) (fun b h1=>We (if b=true then u ρ h1 else .ok false h1) QB R) R:=by unfold KP;rw [Cg]
@[simp] theorem ZeG {u:MT}:We (Cm t u ρ h) QB R=We (t ρ h) (fun b h1=>We (if b=true then .ok true h1 else u ρ h1) QB R) R:=by unfold Cm;rw [Cg]
@[simp] theorem ZeH:We (BR f ρ h) QB R=We (f ρ h) (fun x h1=>We (EW x h1) QB R) R:=by unfold BR;rw [Cg]
@[simp] theorem ZeI:We (Bc f ρ h) QB R=We (f ρ h) (fun x h1=>We (Jk x h1) QB R) R:=by unfold Bc;rw [Cg]
@[simp] theorem ZeJ {QA:List D→HD→Prop}:We (Ad ρ h) QA R=QA [] h:=rfl
@[simp] theorem RR {QA:List D→HD→Prop}:We (Aa f fa ρ h) QA R=We (f ρ h) (fun x h1=>We (fa ρ h1) (fun xs h2=>QA (x::xs) h2) R) R:=by
  unfold Aa;simp only [Cg];rfl
@[simp] theorem ZeK {d:D} {r:Aj}:We (Ab 0 (some d::r) h) QD R=QD d h:=rfl
@[simp] theorem ZeL {i:Nat} {x:Option D} {r:Aj}:We (Ab (i+1) (x::r) h) QD R=We (Ab i r h) QD R:=rfl
@[simp] theorem ZeM {d:D}:We (mC d ρ h) QD R=QD d h:=rfl
@[simp] theorem ZeN {op:D→D→HD→Out D} {f':ME}:We (Ah op f f' ρ h) QD R=We (f ρ h) (fun x h1=>We (f' ρ h1) (fun y h2=>We (op x y h2) QD R) R) R:=by unfold Ah;simp only [Cg]
@[simp] theorem ZeO {fj:MJ}:We (N6 fj ρ h) QD R=We (fj Str.empty ρ h) (fun x h1=>QD (.str x) h1) R:=by unfold N6;rw [Cg];rfl
end
def Et {α:Type} (o:Out α) (h:HD) (n:Str) (fs:List (Str×D)):Prop:=We o (fun _ _=>False) fun n' fs' h'=>n'=n∧fs'=fs∧Sm h h'
theorem Et.we {α:Type} {o:Out α} {h:HD} {n:Str} {fs:List (Str×D)} {Q:α→HD→Prop} {R:Str→List (Str×D)→HD→Prop} (e:Et o h n fs) (k:∀h',Sm h h'→R n fs h'):We o Q R:=We.mono e (fun _ _ z=>z.elim) fun n' fs h' z1_=>by obtain ⟨rfl,rfl,s⟩:=z1_;exact k h' s
theorem RS {cs:List Nat} {Fk:List D→HD→Out D} {f:ME} {ρ:Aj} {h:HD} {ds:List D} {Q:D→HD→Prop} (ht:h[0]?=some .tab) (hd:AV (cs.map fun j=>(ρ[j]?).join)=some ds)
 (q:We (f (ds.map some) h) (fun _ h1=>Q (.str "told") h1) fun n fs h1=>n∈excNames∧∃is,FK fs=some is∧Wp (Fk [.exc n is] h1) Q):Wp (DM cs Fk f ρ h) Q:=by
 unfold DM
 rw [ht,hd]
 simp only
 unfold N5
 cases o:f (ds.map some) h with
 |ok a h1=>rw [o] at q;exact q
 |stuck=>rw [o] at q;exact q.elim
 |err C fs h1=>
  rw [o] at q
  cases C with
  |str n t=>
   obtain ⟨hn,is,hi,hk⟩:=(show n∈excNames∧∃is,FK fs=some is∧Wp (Fk [.exc n is] h1) Q from q)
   simp only [hn,if_true,hi]
   cases e:Fk [.exc n is] h1 with
   |ok d h2=>rw [e] at hk;exact hk
   |_=>rw [e] at hk;exact hk.elim
  |_=>exact q.elim
def Rp (n L:Nat) (d:D):Prop:=∃p:PyData,(∀(h:HD) (m:Nat),AS h (n+m) d=some p)∧p.showable=true∧p.hasDict=false∧p.depth≤n∧p.shown.length≤L
theorem rp_int {i:Int} (h1:0≤i) (h2:i<10):Rp 0 2 (.int i):=by
 refine ⟨.int i,fun h m=>by cases m<;>rfl,?_,rfl,by simp [PyData.depth],?_⟩
 ·obtain ⟨k,rfl⟩:∃k:Nat,i=(k:Int):=⟨i.toNat,by omega⟩
  have hk:k<10:=by omega
  match k,hk with
  |0,_=>decide
  |1,_=>decide
  |2,_=>decide
  |3,_=>decide
  |4,_=>decide
  |5,_=>decide
  |6,_=>decide
  |7,_=>decide
  |8,_=>decide
  |9,_=>decide
 ·obtain ⟨k,rfl⟩:∃k:Nat,i=(k:Int):=⟨i.toNat,by omega⟩
  have hk:k<10:=by omega
  match k,hk with
  |0,_=>decide
  |1,_=>decide
  |2,_=>decide
  |3,_=>decide
  |4,_=>decide
  |5,_=>decide
  |6,_=>decide
  |7,_=>decide
  |8,_=>decide
  |9,_=>decide
section
variable {h:HD} {i j:Int} {ds:List D} {a b:D} {l:Nat} {x y:Str}
@[simp] theorem ZeP:BC (.str x) (.str y) h=.ok (.bl (!(x==y))) h:=rfl
@[simp] theorem ZeQ:CH (.str x) (.str y) h=.ok (.bl (x==y)) h:=rfl
@[simp] theorem ZeR:BC (.int i) (.int j) h=.ok (.bl (!(i==j))) h:=rfl
@[simp] theorem ZeS:CH (.int i) (.int j) h=.ok (.bl (i==j)) h:=rfl
@[simp] theorem ZeT {c d:Bool}:BC (.bl c) (.bl d) h=.ok (.bl (!(c==d))) h:=rfl
@[simp] theorem ZeU {c d:Bool}:CH (.bl c) (.bl d) h=.ok (.bl (c==d)) h:=rfl
@[simp] theorem ZeV {es:List D}:BC (.tup ds) (.tup es) h=DF (.tup ds) (.tup es) h:=rfl
@[simp] theorem ZeW {es:List D}:CH (.tup ds) (.tup es) h=GF (.tup ds) (.tup es) h:=rfl
@[simp] theorem ZeX:Cf (.int i) (.int j) h=DJ (.int i) (.int j) h:=rfl
@[simp] theorem YD:Cf (.loc l) b h=DJ (.loc l) b h:=rfl
@[simp] theorem ZeY:AO (.int i) b h=BH (.int i) b h:=rfl
@[simp] theorem ZeZ {c:Bool}:AO (.bl c) b h=BH (.bl c) b h:=rfl
@[simp] theorem Ze0:AO .non b h=BH .non b h:=rfl
@[simp] theorem Ze1:AO (.str x) b h=BH (.str x) b h:=rfl
@[simp] theorem Ze2:AO (.tup ds) b h=BH (.tup ds) b h:=rfl
@[simp] theorem YE:AO (.loc l) b h=BH (.loc l) b h:=rfl
@[simp] theorem Ze3 {c:Bool}:BH (.bl c) (.ty "int") h=.ok (.bl true) h:=rfl
@[simp] theorem Ze4 {c:Bool}:BH (.bl c) (.ty "bool") h=.ok (.bl true) h:=rfl
@[simp] theorem Ze5 {c:Bool}:BH (.bl c) (.ty "tuple") h=.ok (.bl false) h:=rfl
@[simp] theorem Ze6:BH .non (.ty "int") h=.ok (.bl false) h:=rfl
@[simp] theorem Ze7:BH .non (.ty "tuple") h=.ok (.bl false) h:=rfl
@[simp] theorem Ze8:BH (.str x) (.ty "int") h=.ok (.bl false) h:=rfl
@[simp] theorem Ze9:BH (.str x) (.ty "tuple") h=.ok (.bl false) h:=rfl
theorem YF (e:h[l]?=some (.lst ds)):BH (.loc l) (.ty "int") h=.ok (.bl false) h:=by
 simp only [BH,En,e];rfl
theorem YG (e:h[l]?=some (.lst ds)):BH (.loc l) (.ty "tuple") h=.ok (.bl false) h:=by
 simp only [BH,En,e];rfl
@[simp] theorem Zfa:AO .edic (.ty "int") h=.ok (.bl false) h:=rfl
@[simp] theorem Zfb:AO .edic (.ty "tuple") h=.ok (.bl false) h:=rfl
theorem E9 {n n':Str} {fs:List (Str×Int)} (h1:n∈excNames) (h2:n'∈excNames):AO (.exc n fs) (.glo n') h=.ok (.bl (BK n n')) h:=if_pos ⟨h1,h2⟩
theorem YH {n:Str} {fs:List (Str×Int)} (h1:n∈excNames):AO (.exc n fs) (.ty "ValueError") h=.ok (.bl true) h:=if_pos ⟨h1,rfl⟩
@[simp] theorem Zfc {ρ:Aj} {c d:D} {i j k l:Nat}:GS [i,j,k,l] (.tup [a,b,c,d]) ρ=some ((((ρ.set i (some a)).set j (some b)).set k (some c)).set l (some d)):=rfl
theorem YI (hz:x.length+y.length≤1000):AL (.str x) (.str y) h=.ok (.str (x++y)) h:=by
 simp only [AL]
 rw [if_pos (by unfold sizeLine;omega)]
theorem JS {xs ys:List D} {k:Nat} (e1:h[l]?=some (.lst xs)) (e2:h[k]?=some (.lst ys)):AL (.loc l) (.loc k) h=B6 (xs++ys) h:=by simp only [AL,e1,e2]
theorem YJ {vs:List V} {w:V} (e:h[l]?=some (.lst ds)) (e1:AV (ds.map CT)=some vs) (e2:CT a=some w):GQ (.loc l) a h=.ok (.int (IH w vs)) h:=by
 simp only [GQ,Df,e,Out.bind_ok,II,BA,e1,e2]
theorem YK {vs:List V} {w:V} {j:Nat} (e:h[l]?=some (.lst ds)) (e1:AV (ds.map CT)=some vs) (e2:CT a=some w) (e3:Ly w vs=some j):GR (.loc l) a h=.ok (.int j) h:=by
 simp only [GR,e,e1,e2,e3]
@[simp] theorem Zfd {chk:D→HD→Out D} {op:D→D→HD→Out D} {f g:ME} {ρ:Aj} {Q:D→HD→Prop}:Wp (IG chk op f g ρ h) Q=Wp (f ρ h) fun x h1=>Wp (chk x h1) fun x h2=>Wp (g ρ h2) fun y h3=>Wp (op x y h3) Q:=by unfold IG;simp only [AG]
@[simp] theorem sz6:(6≤sizeLine)=True:=eq_true (by unfold sizeLine;omega)
@[simp] theorem sz7:(7≤sizeLine)=True:=eq_true (by unfold sizeLine;omega)
@[simp] theorem sz8:(8≤sizeLine)=True:=eq_true (by unfold sizeLine;omega)
@[simp] theorem sz9:(9≤sizeLine)=True:=eq_true (by unfold sizeLine;omega)
@[simp] theorem Zfe:(10≤sizeLine)=True:=eq_true (by unfold sizeLine;omega)
theorem RT {k:Nat} (hne:ds≠[]) (hz:ds.length*k≤1000) (hk:1<k:=by decide):Cf (.tup ds) (.int (k:Nat)) h=.ok (.tup (List.replicate k ds).flatten) h:=by
 simp only [Cf]
 have h1:k≤1000:=by
  have:1≤ds.length:=by
   cases ds with
   |nil=>exact absurd rfl hne
   |cons _ _=>simp
  have:=Nat.mul_le_mul_right k this
  omega
 rw [if_pos ⟨hne,by omega,by omega,by simp;unfold sizeLine;omega⟩]
 simp
end
section
variable {ρ:Aj} {h:HD} {Q:Str→HD→Prop} {R:Str→List (Str×D)→HD→Prop} {acc y:Str} {r:MJ} {f:ME} {n:Nat} {i:Int}
end
end LS
namespace LS
open PySem PySem.Spec PyProof.Rows L2 PySem.W
section
variable {X:Cx} {E:XK}
def listOfD:D→HD→Out D:=fun x h=>match BA x h with
 |some ds=>B6 ds h
 |none=>.stuck
theorem Ob:Do X (.type "list") (An listOfD):=by
 refine ⟨_,V3,fun m H h E ds vs Q hr r q=>F6 r q fun d v ev rv q=>?_⟩
 unfold listOfD at q
 split at q
 ·rename_i ds' e
  obtain ⟨p,ws,rfl,hs,dv⟩:=Jt hr rv e
  exact ⟨p,ws,ev,hs,(HY hr dv q).2⟩
 ·exact q.elim
theorem LD {pos:Pos}:Ev X E (.Dict [] [] pos) (mC .edic):=fun pins s σ H Q I z1_=>by
 obtain ⟨m,ρ,h,hr,er,p⟩:=z1_
 have hf:H s.heap.objs.size=none:=I.hok.fresh (AF _)
 refine wpAny_Dict_empty ⟨.ref s.heap.objs.size,Ao H s.heap.objs.size (.ext (Nd s.heap.objs.size)),I.laid (t':=s.toks) (fun _ _ q=>AB _ q) (AF _) ?_,rfl,?_⟩
 ·have ne:s.heap.objs.size≠sysModules:=by
   obtain ⟨og,_,_,eg,_⟩:=I.ok.mod.glob
   obtain ⟨ml,⟨ol,_,_,el,_⟩,_⟩:=I.loc
   have h1:(3:Nat)<X.base.objs.size:=AE eg
   have h2:(X.env.locals:Nat)<s.heap.objs.size:=AE el
   have h3:X.base.objs.size≤X.s₀.heap.objs.size:=I.ok.bsz
   have h4:X.s₀.heap.objs.size≤(X.env.locals:Nat):=I.ok.above
   have h5:(1:Nat)<s.heap.objs.size:=A0 (A0 (show 1<4 by decide) h1) (Ca h3 (Ca h4 (Ft h2)))
   exact fun z=>BP h5 z
  exact ⟨⟨ne,_,_,A7 _ rfl,⟨rfl,rfl,rfl⟩,rfl⟩,⟨_,A7 _ rfl⟩,fun h1 h2 z2_ k=>by obtain ⟨ne,o,ep,z1,z2⟩:=z2_;exact (⟨ne,o,ep,k o z1,z2⟩)⟩
 ·exact p (.ref s.heap.objs.size) m _ (AQ _) (.new hf) (hr.new hf) (by simp only [rD,DV];exact ⟨_,rfl,B3⟩)
def IP (T:List (Str×(List D→HD→Out D))) (fv:ME) (fa:MA):ME:=fun ρ h=>(fv ρ h).bind fun d h1=>match d with
 |.glo n=>(match T.lookup n with
  |some F=>(fa ρ h1).bind F
  |none=>.stuck)
 |_=>.stuck
def LG (P:Program) (w:World) (K:Frag) (mg:Str→Option Value) (base:Heap) (k:Nat) (T:List (Str×(List D→HD→Out D))):Prop:=∀n F,T.lookup n=some F→CaE P w K mg base n k F
theorem CaE.mono {P:Program} {w:World} {K:Frag} {mg:Str→Option Value} {base:Heap} {x:Str} {j k:Nat} {F:List D→HD→Out D} (C:CaE P w K mg base x j F) (h:j≤k):CaE P w K mg base x k F:=by
 obtain ⟨f,fd,ps,G,r⟩:=C.ex
 exact ⟨f,fd,ps,G.mono h,r⟩
theorem YL {P:Program} {w:World} {K:Frag} {mg:Str→Option Value} {base:Heap} {k:Nat}:LG P w K mg base k []:=fun n F e=>by cases e
theorem RU {P:Program} {w:World} {K:Frag} {mg:Str→Option Value} {base:Heap} {k j:Nat} {T:List (Str×(List D→HD→Out D))} {x:Str} {F:List D→HD→Out D} (c:CaE P w K mg base x j F) (h:LG P w K mg base k T) (hj:j≤k:=by decide):LG P w K mg base k ((x,F)::T):=fun n G e=>by
 rw [FR] at e
 split at e
 ·rename_i z
  cases e
  have:n=x:=by simpa using z
  subst this
  exact c.mono hj
 ·exact h n G e
theorem YM {k k':Nat} {T:List (Str×(List D→HD→Out D))} {fv:ME} {fa:MA} {x:Str} {p pos:Pos} {e:Expr} {es:List Expr} (C:LG X.prog X.w X.K X.mg X.base k T) (hr:Room k' X.A) (hx:EU (As X.prog X.w X.K) X E) (hv:Ev X E (.Name x p) fv) (ha:CS X E (e::es) fa) (hk:k≤k':=by decide)
 (he:starEach (e::es) X.env=(false,eval e X.env)::starEach es X.env:=by rfl) (hpl:(backTo pos (starEach es X.env)).any (·.1)=false:=by rfl):
 Ev X E (.Call (.Name x p) (e::es) [] pos) (IP T fv fa):=by
 rintro pins s σ H Q I ⟨m,ρ,hd,hr1,er,pp⟩
 have post:tD X.K E fv σ H (fun v H1=>∃n F a,v=.ref a∧nsIn X.K mainGlobals n=some (some (.ref a))∧T.lookup n=some F∧∃m1 h1,HR X.K m1 h1 H1∧ER X.K m1 H1 ρ σ∧Post X.K (rD X.K) m1 H1 E Q ((fa ρ h1).bind F)):=by
  refine ⟨m,ρ,hd,hr1,er,Post.bind pp fun d h1 v m1 H1 eo p1 k1 hr1 r1 q1=>?_⟩
  clear eo
  split at q1
  ·rename_i n
   split at q1
   ·rename_i F eF
    simp only [rD,DV] at r1
    obtain ⟨a,rfl,ha⟩:=r1
    exact ⟨n,F,a,rfl,ha,eF,m1,h1,hr1,er.keep p1 k1,q1⟩
   ·exact q1.elim
  ·exact q1.elim
 refine wpAny_Call_Name_kw (Ax (hv pins s σ H _ I post) fun u s1 z3_=>?_)
 obtain ⟨v,H1,I1,rv,n,F,a,ev,hn,eF,m1,h1,hr1,er1,q1⟩:=z3_
 subst ev
 cases (show u=Value.ref a from rv)
 obtain ⟨f,fd,ps,G,hb,hm,hkp⟩:=(C n F eF).ex
 have:a=f:=by
  have:=mg_of I1.mod.kin I1.mod.glob hn
  rw [hm] at this
  cases this;rfl
 subst this
 refine PySem.W.callWith_K (h₀:=X.base) I1.ok.mod.kin hkp (Ax (ha pos pins s1 σ H1 (fun vs H2=>E4 X.K F vs H2 Q E) I1 ⟨m1,ρ,h1,hr1,er1,Post.bind q1 fun xs h2 vs m2 H2 _ p2 k2 hr2 r2 q2=>⟨m2,xs,h2,hr2,r2,q2⟩⟩) ?_) he hpl
 rintro us s2 ⟨vs,H2,I2,r,q⟩
 refine ⟨I2.kIn,?_⟩
 exact M6 G (hr.mono hk) hb (dvs:=[]) .nil hx I2 r (by rw [Gr];exact q)
theorem RV {x:Str} {a:Addr} {pos:Pos} (hn:nsIn X.K mainGlobals x=some (some (.ref a))) (hg:Gl X x:=by rfl) (hd:(x==("__debug__":Str))=false:=by decide):Ev X E (.Name x pos) (mC (.glo x)):=Ry hg hn hd
end
def Zff (K:Frag) (c:Addr):Bool:=match tabP K with
 |some (c',T)=>c'==c&&codeHdIn K c T
 |none=>false
section
variable {prog:Program} {w:World} {A:Around} {E:Str→Value→Shared→Prop}
end
section
variable {X:Cx} {E:XK}
def YN (K:PySem.W.Frag):V→Option Int→Option Int→Hp→VK→Prop:=fun x lo hi H Q=>∃a xs,x=.ref a∧SqT K H a xs∧HT.sIx xs.length 0 lo=0∧HT.sIx xs.length xs.length hi=xs.length∧Q (.ref a) H
theorem sl_whole:SlR X (YN X.K):=by
 rintro pins s σ H x v vl vu lo hi sl Q I rx hs pl pu ⟨a,xs,rfl,hx,w0,w1,q⟩
 cases rx
 obtain ⟨its,r,ht,hz⟩:=I.tuple hx
 have hl:its.toArray.size=xs.length:=by rw [A9];exact r.length.symm
 rw [←hl] at w0 w1
 obtain ⟨os,hos,hcs,hds⟩:=id hs
 refine ⟨"tuple",_,slot_tuple_getitem.lookup,ht.typeIs,?_⟩
 unfold getItem
 try with_reducible refine wpAny_holding ?_
 first |refine wpAny_bind (wpAny_pure ?_) |skip
 refine wpAny_bind (wpAny_sequenceKey ht.typeIs (by decide) (wpAny_bind (wpAny_callSpecial?_slot (name:=Str.ofString "__getitem__") ht.typeIs slot_tuple_getitem
  (wpAny_call_entry slot_tuple_getitem ht.typeIs entry_tuple_getitem ?_ (args_tuple_getitem _ _)))))
 show wpAny _ _ (Builtin.Tuple.tupleItemsOf (.ref a) >>=_) _ _ s
 refine wpAny_bind (tupleItemsOf_ ht (wpAny_bind (wpAny_typeOf (show s.TypeIs (.ref sl) "slice" from ⟨os,hos,hcs⟩) ?_)))
 rw [if_pos (by decide)]
 refine wpAny_bind (HT.sliceApplied_gen hs pl pu ?_)
 have hy:(((HT.sIx its.toArray.size 0 lo:Nat):Int)==0&&(1:Int)==1&&(HT.sIx its.toArray.size its.toArray.size hi - HT.sIx its.toArray.size 0 lo)==its.toArray.size)=true:=by
  rw [w0,w1]
  simp
 show wpAny _ _ (if (((HT.sIx its.toArray.size 0 lo:Nat):Int)==0&&(1:Int)==1&&(HT.sIx its.toArray.size its.toArray.size hi - HT.sIx its.toArray.size 0 lo)==its.toArray.size)=true then _ else _) _ _ s
 rw [if_pos hy]
 unfold Builtin.Tuple.tupleIsExact
 refine wpAny_bind (wpAny_bind (wpAny_typeOf ht.typeIs (wpAny_pure ?_)))
 rw [if_pos (by decide)]
 refine wpAny_bind (wpAny_rule ?_)
 have A1:EP X pins σ Q (.ref a) s:=⟨.ref a,H,I,rfl,q⟩
 first
  |exact wpAny_pure ⟨_,rfl,wpAny_pure A1⟩
  |exact wpAny_pure A1
def FM (x:D) (lo hi:Option Int) (h:HD):Out D:=match x with
 |.tup xs=>.ok (.tup (Gg xs lo hi)) h
 |_=>.stuck
def Fb (f:ME) (lo hi:MO):ME:=fun ρ h=>(f ρ h).bind fun x h1=>(lo ρ h1).bind fun l h2=>(hi ρ h2).bind fun u h3=>FM x l u h3
theorem YO {α:Type} {xs:List α} {lo hi:Option Int} (h0:HT.sIx xs.length 0 lo=0) (h1:HT.sIx xs.length xs.length hi=xs.length):(xs.drop (HT.sIx xs.length 0 lo)).take (HT.sIx xs.length xs.length hi - HT.sIx xs.length 0 lo)=xs:=by
 rw [h0,h1];simp
theorem JT {e:Expr} {lo hi:Option Expr} {f:ME} {fl fh:MO} {p2 pos:Pos} (he:Ev X E e f) (hl:Lp X E lo fl) (hu:Lp X E hi fh):Ev X E (.Subscript e (.Slice lo hi none p2) pos) (Fb f fl fh):=
 BW (VP (sl_whole.or VS) he hl hu) fun σ H Q ⟨m,ρ,h,hr,er,p⟩=>⟨m,ρ,h,hr,er,Post.bind p fun x h1 v m1 H1 eo1 p1 k1 hr1 r1 q1=>
  ⟨m1,ρ,h1,hr1,er.keep p1 k1,Post.bind q1 fun l h2 l' m2 H2 eo2 p2 k2 hr2 r2 q2=>
   ⟨m2,ρ,h2,hr2,(er.keep p1 k1).keep p2 k2,Post.bind q2 fun u h3 u' m3 H3 eo3 p3 k3 hr3 r3 q3=>by
    clear eo1 eo2 eo3
    subst r2 r3
    have rx:=DV.keep p3 k3 (DV.keep p2 k2 r1)
    unfold FM at q3
    split at q3
    ·rename_i xs
     have rx0:=rx
     simp only [DV] at rx
     obtain ⟨a,vs,rfl,ha,dv⟩:=rx
     by_cases hz:HT.sIx xs.length 0 l=0∧HT.sIx xs.length xs.length u=xs.length
     ·refine .inl ⟨a,vs,rfl,SqT.of ha,by rw [←dv.len];exact hz.1,by rw [←dv.len];exact hz.2,?_⟩
      have e:Gg xs l u=xs:=YO hz.1 hz.2
      rw [e] at q3
      exact q3 (.ref a) m3 H3 (AQ _) (.refl _) hr3 rx0
     ·rw [dv.len] at hz
      exact .inr ⟨a,vs,rfl,SqT.of ha,hz,GE hr3 (dv.cut l u) q3⟩
    ·exact q3.elim⟩⟩⟩
theorem RW {xs:List D} {k:Nat} {h:HD} (hk:k≤xs.length):FM (.tup xs) none (some (k:Int)) h=.ok (.tup (xs.take k)) h:=by
 simp only [FM]
 unfold Gg
 rw [HT.sIx_nat,HT.sIx_none,List.drop_zero,show min k xs.length - 0=k from by omega]
theorem RX {xs:List D} {k:Nat} {i:Int} {h:HD} (hi:i=((k+1:Nat):Int)) (hk:k<xs.length):FM (.tup xs) (some i) none h=.ok (.tup (xs.drop (k+1))) h:=by
 subst hi
 simp only [FM]
 unfold Gg
 rw [HT.sIx_nat,HT.sIx_none,show min (k+1) xs.length=k+1 from by omega]
 congr 2
 exact List.take_of_length_le (by simp)
theorem YQ {xs:List D} {h:HD} (hk:1≤xs.length):FM (.tup xs) none (some (-1)) h=.ok (.tup (xs.take (xs.length - 1))) h:=by
 have e:HT.sIx xs.length xs.length (some (-1))=xs.length - 1:=by
  simp only [HT.sIx]
  rw [if_pos (by decide)]
  omega
 simp only [FM]
 unfold Gg
 rw [e,HT.sIx_none,List.drop_zero,Nat.sub_zero]
end
section
variable {f:ME} {lo hi:MO} {ρ:Aj} {h:HD} {Q:D→HD→Prop}
@[simp] theorem Zfg:Wp (Fb f lo hi ρ h) Q=Wp (f ρ h) fun x h1=>Wp (lo ρ h1) fun l h2=>Wp (hi ρ h2) fun u h3=>Wp (FM x l u h3) Q:=by unfold Fb;simp only [AG]
end
section
variable {K:Frag} {mg:Str→Option Value} {h:Heap}
theorem YR {us:List Value} (h:us.length=0):us=[]:=qbI.mp h
theorem RY {us:List Value} (h:us.length=1):∃v0,us=[v0]:=by
 cases us with
 |nil=>cases h
 |cons v t=>
  obtain rfl:=YR (Nat.succ.inj h)
  exact ⟨v,rfl⟩
theorem RZ {us:List Value} (h:us.length=2):∃v0 v1,us=[v0,v1]:=by
 cases us with
 |nil=>cases h
 |cons v t=>
  obtain ⟨w0,rfl⟩:=RY (Nat.succ.inj h)
  exact ⟨v,w0,rfl⟩
theorem YS {us:List Value} (h:us.length=3):∃v0 v1 v2,us=[v0,v1,v2]:=by
 cases us with
 |nil=>cases h
 |cons v t=>
  obtain ⟨w0,w1,rfl⟩:=RZ (Nat.succ.inj h)
  exact ⟨v,w0,w1,rfl⟩
theorem CW {x p0:Str} {st:Stmt} {f:Addr} {oc:Value} {od an:Option Addr} {osl:Array (Option Value)} {kV doc pm cdv ct:Value} (X:K.In h) (G:h.Ns mainGlobals mg) (l:K.lookup f=some ⟨oc,od,.func (fnOf x x (defArgs st) (defBody st) (defScope st) .none kV doc pm an cdv ct),osl⟩) (c:codeIn K cdv x=true) (k:keepIn K (.ref f)=true) (a:nsIn K mainGlobals x=some (some (.ref f)))
 (b:∀(kV doc pm:Value) (an:Option Addr) (cdv ct v0:Value),bindArgs (fnOf x x (defArgs st) (defBody st) (defScope st) .none kV doc pm an cdv ct) ⟨[v0],[]⟩=pure (([p0]:List Str).zip [v0])):Dn K mg x [p0] st f (fnOf x x (defArgs st) (defBody st) (defScope st) .none kV doc pm an cdv ct):=
 ⟨FX l c k,(FX l c k).binds (fun kV doc pm an cdv ct us hl=>by obtain ⟨v0,rfl⟩:=RY hl;exact b kV doc pm an cdv ct v0),mg_of X G a⟩
theorem CY {x p0 p1:Str} {st:Stmt} {f:Addr} {oc:Value} {od an:Option Addr} {osl:Array (Option Value)} {kV doc pm cdv ct:Value} (X:K.In h) (G:h.Ns mainGlobals mg) (l:K.lookup f=some ⟨oc,od,.func (fnOf x x (defArgs st) (defBody st) (defScope st) .none kV doc pm an cdv ct),osl⟩) (c:codeIn K cdv x=true) (k:keepIn K (.ref f)=true) (a:nsIn K mainGlobals x=some (some (.ref f)))
 (b:∀(kV doc pm:Value) (an:Option Addr) (cdv ct v0 v1:Value),bindArgs (fnOf x x (defArgs st) (defBody st) (defScope st) .none kV doc pm an cdv ct) ⟨[v0,v1],[]⟩=pure (([p0,p1]:List Str).zip [v0,v1])):Dn K mg x [p0,p1] st f (fnOf x x (defArgs st) (defBody st) (defScope st) .none kV doc pm an cdv ct):=
 ⟨FX l c k,(FX l c k).binds (fun kV doc pm an cdv ct us hl=>by obtain ⟨v0,v1,rfl⟩:=RZ hl;exact b kV doc pm an cdv ct v0 v1),mg_of X G a⟩
theorem LH {x p0 p1 p2:Str} {st:Stmt} {f:Addr} {oc:Value} {od an:Option Addr} {osl:Array (Option Value)} {kV doc pm cdv ct:Value} (X:K.In h) (G:h.Ns mainGlobals mg) (l:K.lookup f=some ⟨oc,od,.func (fnOf x x (defArgs st) (defBody st) (defScope st) .none kV doc pm an cdv ct),osl⟩) (c:codeIn K cdv x=true) (k:keepIn K (.ref f)=true) (a:nsIn K mainGlobals x=some (some (.ref f)))
 (b:∀(kV doc pm:Value) (an:Option Addr) (cdv ct v0 v1 v2:Value),bindArgs (fnOf x x (defArgs st) (defBody st) (defScope st) .none kV doc pm an cdv ct) ⟨[v0,v1,v2],[]⟩=pure (([p0,p1,p2]:List Str).zip [v0,v1,v2])):Dn K mg x [p0,p1,p2] st f (fnOf x x (defArgs st) (defBody st) (defScope st) .none kV doc pm an cdv ct):=
 ⟨FX l c k,(FX l c k).binds (fun kV doc pm an cdv ct us hl=>by obtain ⟨v0,v1,v2,rfl⟩:=YS hl;exact b kV doc pm an cdv ct v0 v1 v2),mg_of X G a⟩
theorem SaidD.of {st:Stmt} {f:Addr} {fd:FuncData} (d:Dn K mg "_law_said" ["_law_call"] st f fd):SaidD K mg st f fd:=⟨d.fn,d.bd,d.mg⟩
end
open AutoSeq1 (wpAny_loadPart')
section
variable {prog:Program} {w:World} {A:Around} {E:Value→Shared→Prop} {s:Shared}
theorem YT {Q:List Value→Shared→Prop} {r:Addr} {a b c:Int} {t u v:Tok} {n:Nat} (hh:A.handled=none) (hr:IsRange s.heap r a b c t u v) (hsmall:Builtin.Range.small a b c=true)
 (hn:Builtin.Range.rangeSize a b c=n) (hlen:n≤2^24)
 (hQ:∀h' tk acc,(∀b o,s.heap.get? b=some o→h'.get? b=some o)→ItemsOf (fun i v=>∃t,v=.int (a+i*c) t) acc n→Q acc.toList {s with heap:=h',toks:=tk}):
 wpAny (model prog w) A (collect (.ref r)) Q E s:=by
 unfold collect
 refine wpAny_bind (wpAny_runValue (codeAny_builtin F.entry_proto_collect ?_))
 rw [Around.under_plainId F.plain_proto_collect _]
 show wpAny _ A.in1 (newList [] >>=fun l=>again (.builtin "list.__iadd__" ⟨[l,.ref r],[]⟩)) _ _ s
 refine wpAny_bind (wpAny_newObj_type ?_)
 refine wpAny_pure ⟨plainId_quiet F.plain_list_iadd _,codeAny_builtin F.entry_list_iadd ?_⟩
 rw [Around.under_plainId F.plain_list_iadd _]
 have hS:(s.heap.push {cls:=.type "list",data:=.seq ([]:List Value).toArray}).get? s.heap.objs.size=some {cls:=.type "list",data:=.seq #[]}:=A7 _ rfl
 show wpAny _ A.in1 (Builtin.List.listExtendWith (.ref s.heap.objs.size) (.ref r) (.ref s.heap.objs.size)) _ _ _
 refine wpAny_mono (wpAny_extend_range (A:=A) (s:={s with heap:=s.heap.push {cls:=.type "list",data:=.seq ([]:List Value).toArray}})
  (R:=fun res s'=>∃h' tk acc c',(∀b o,b≠s.heap.objs.size→(s.heap.push {cls:=.type "list",data:=.seq ([]:List Value).toArray}).get? b=some o→h'.get? b=some o)∧
   h'.get? s.heap.objs.size=some {cls:=.type "list",dict:=none,data:=.seq acc c',slots:=#[]}∧ItemsOf (fun i v=>∃t,v=.int (a+i*c) t) acc n∧res=.ok (.ret (.ref s.heap.objs.size))∧s'={s with heap:=h',toks:=tk})
  hh (AB _ hr) hsmall hn hlen _ (.ref s.heap.objs.size) 0 hS fun h' tk acc c' hk hS' hacc=>⟨h',tk,acc,c',hk,hS',hacc,rfl,rfl⟩) (fun A1 s' hx=>?_) (fun e s' hx=>?_)
 ·have fin_ok:∀{res:Result} {s':Shared},(∃h' tk acc c',(∀b o,b≠s.heap.objs.size→(s.heap.push {cls:=.type "list",data:=.seq ([]:List Value).toArray}).get? b=some o→h'.get? b=some o)∧
   h'.get? s.heap.objs.size=some {cls:=.type "list",dict:=none,data:=.seq acc c',slots:=#[]}∧ItemsOf (fun i v=>∃t,v=.int (a+i*c) t) acc n∧res=.ok (.ret (.ref s.heap.objs.size))∧s'={s with heap:=h',toks:=tk})→
   res=.ok (.ret (.ref s.heap.objs.size))∧wpAny (model prog w) A (load s.heap.objs.size >>=fun o=>match o.data with |.seq xs _=>pure xs.toList |_=>unsupported "internal:collect") Q E s':=fun {res s'} hx=>by
   obtain ⟨h',tk,acc,c',hk,hS',hacc,rfl,rfl⟩:=hx
   refine ⟨rfl,wpAny_bind (wpAny_load hS' ?_)⟩
   exact wpAny_pure (hQ h' tk acc (fun b o e=>hk b o (Bg (AE e)) (AB _ e)) hacc)
  cases A1 with
  |done f=>
   obtain ⟨e,q⟩:=fin_ok hx
   cases e
   exact q
  |again c'=>
   refine ⟨hx.1,codeAny_mono hx.2 fun res s'' hy=>?_⟩
   obtain ⟨e,q⟩:=fin_ok hy
   subst e
   exact q
 ·obtain ⟨_,_,_,_,_,_,_,z,_⟩:=hx
  cases z
end
theorem YU (r:Addr) (a b c:Int) (t u v:Tok) (n:Nat) (hsmall:Builtin.Range.small a b c=true) (hn:Builtin.Range.rangeSize a b c=n) (hlen:n≤2^24):
 Meets (Builtin.«tuple.__new__» ⟨[.type "tuple",.ref r],[]⟩)
  (fun A R s=>A.handled=none∧IsRange s.heap r a b c t u v∧∀(h':Heap) (tk:Tok) (acc:Array Value),(∀b o,s.heap.get? b=some o→h'.get? b=some o)→ItemsOf (fun i v=>∃t,v=.int (a+i*c) t) acc n→
   R (.ok (.ret (.ref h'.objs.size))) {s with heap:=h'.push {cls:=.type "tuple",data:=.seq acc},toks:=tk}):=
 .of_wp fun prog w A R s h=>by
  obtain ⟨hh,hr,h⟩:=h
  have hsub:=sub_tuple_self
  have hinit:=init_tuple_lookup
  have hmh:=madeHere_tuple
  have hT:s.TypeIs (.ref r) "range":=⟨_,hr,rfl⟩
  have hh1:A.in1.handled=none:=hh
  wp_walk using wpAny_typeOf hT,YT hh1 hr hsmall hn hlen
  intro h' tk acc hk hacc
  show wpAny _ _ (Builtin.Tuple.tupleExact acc.toList.toArray >>=fun v=>ret v) _ _ _
  unfold Builtin.Tuple.tupleExact
  refine wpAny_bind (wpAny_newObj_type ?_ (show acc.toList.toArray.size≤sizeLine by simp only [Array.toArray_toList];rw [hacc.1,sizeLine_eq];omega))
  refine wpAny_pure ⟨_,rfl,?_⟩
  have e:acc.toList.toArray=acc:=by simp
  rw [e]
  exact h h' tk acc hk hacc
theorem YV {prog:Program} {w:World} {A:Around} {E:Value→Shared→Prop} {s:Shared} {Q:Value→Shared→Prop} {r:Addr} {a b c:Int} {t u v:Tok} {n:Nat} (hh:A.handled=none) (hr:IsRange s.heap r a b c t u v) (hsmall:Builtin.Range.small a b c=true)
 (hn:Builtin.Range.rangeSize a b c=n) (hlen:n≤2^24)
 (h:∀(h':Heap) (tk:Nat) (acc:Array Value),(∀b o,s.heap.get? b=some o→h'.get? b=some o)→ItemsOf (fun i v=>∃t,v=.int (a+i*c) t) acc n→Q (.ref h'.objs.size) {s with heap:=h'.push {cls:=.type "tuple",data:=.seq acc},toks:=tk}):
 wpAny (model prog w) A (call (.type "tuple") [.ref r]) Q E s:=by
 refine callType_new F.called_tuple (by decide) (F.typeCall_tuple_1 _) (F.newCall_tuple_1 _) (fun obj=>F.args_object_init_2 obj _) F.entry_tuple_new
  (YU r a b c t u v n hsmall hn hlen) ⟨hh,hr,fun h' tk acc hk hacc=>⟨⟨_,A7 _ rfl,rfl⟩,h h' tk acc hk hacc⟩⟩
def JU (r:Addr) (n:Nat) (h:Heap):Prop:=∃t u v,IsRange h r 0 (n:Int) 1 t u v
theorem R0:∀(n k:Nat) (us:List Value),us.length=n→(∀(j:Nat) (v:Value),us[j]?=some v→∃t,v=Value.int ((k:Int)+(j:Int)) t)→Vals ((List.range' k n).map fun i=>V.int ((i:Nat):Int)) us
 |0,k,us,hl,h=>by
  rw [qbI.mp hl]
  exact .nil
 |n+1,k,us,hl,h=>by
  cases us with
  |nil=>cases hl
  |cons u us=>
   rw [List.range'_succ,Bu]
   refine .cons ?_ (R0 n (k+1) us (Nat.succ.inj hl) fun j v e=>?_)
   ·obtain ⟨t,e⟩:=h 0 u rfl
    exact ⟨t,by rw [e];simp⟩
   ·obtain ⟨t,e⟩:=h (j+1) v (by simpa using e)
    exact ⟨t,by rw [e];congr 1;push_cast;omega⟩
section
variable {X:Cx} {E:XK}
inductive R1 (vs:List V) (H:Hp) (Q:VK):Prop where
 |mk (n:Nat) (e:vs=[.int (n:Int)]) (hn:n≤1000) (q:∀p,H p=none→Q (.ref p) (Ao H p (.ext (JU p n)))):R1 vs H Q
inductive R3 (vs:List V) (H:Hp) (Q:VK):Prop where
 |mk (r:Addr) (n:Nat) (e:vs=[.ref r]) (hr:H r=some (.ext (JU r n))) (hn:n≤1000) (q:∀p,H p=none→Q (.ref p) (Ao H p (.tup ((List.range n).map fun i=>V.int ((i:Nat):Int))))):R3 vs H Q
theorem YW:CQ X (.type "range") R1:=by
 intro pins s σ H vs us Q I r h
 obtain ⟨n,rfl,hn,q⟩:=h
 obtain ⟨u,rfl,t,rfl⟩:=Vals.one r
 refine call_range_1 ?_
 have hf:H s.heap.objs.size=none:=I.hok.fresh (AF _)
 refine ⟨.ref s.heap.objs.size,Ao H s.heap.objs.size (.ext (JU s.heap.objs.size n)),I.laid (fun b o e=>AB _ e) (AF _) ?_,rfl,q _ hf⟩
 exact ⟨⟨_,_,_,A7 _ rfl⟩,⟨_,A7 _ rfl⟩,fun h1 h2 z k=>by obtain ⟨t,u,v,e⟩:=z;exact ⟨t,u,v,k _ e⟩⟩
theorem YX (hc:X.calm=true):CQ X (.type "tuple") R3:=by
 intro pins s σ H vs us Q I r h
 obtain ⟨a,n,rfl,hr,hn,q⟩:=h
 obtain ⟨u,rfl,ru⟩:=Vals.one r
 cases (show u=Value.ref a from ru)
 obtain ⟨⟨t,u,v,ho⟩,_⟩:=(show ObjOk X.prog X.w H s.heap a (.ext (JU a n)) from I.hok a _ hr)
 refine YV (n:=n) (I.ok.hd hc) ho (small_one (by omega) (by omega) (by omega) (by omega)) ?_ (by omega) fun h' tk acc hk hacc=>?_
 ·unfold Builtin.Range.rangeSize
  rw [if_pos (by decide)]
  by_cases h0:(0:Int)<(n:Int)
  ·rw [if_pos h0,Int.ediv_one];omega
  ·rw [if_neg h0];omega
 have I1:Inv X pins σ H {s with heap:=h',toks:=tk}:=I.kept hk
 have hf:H h'.objs.size=none:=I1.hok.fresh (AF _)
 refine ⟨.ref h'.objs.size,Ao H h'.objs.size (.tup ((List.range n).map fun i=>V.int ((i:Nat):Int))),I1.laid (t':=tk) (fun b o e=>AB _ e) (AF _) ?_,rfl,q _ hf⟩
 have hv:Vals ((List.range n).map fun i=>V.int ((i:Nat):Int)) acc.toList:=by
  rw [List.range_eq_range']
  refine R0 n 0 acc.toList (by rw [Array.length_toList];exact hacc.1) fun j v e=>?_
  obtain ⟨t,e'⟩:=hacc.2 j v (by simpa using e)
  exact ⟨t,by rw [e'];congr 1;simp⟩
 exact ⟨by simp;rw [sizeLine_eq];omega,acc.toList,hv,⟨_,A7 _ rfl,rfl,0,by simp⟩,NoDict.new⟩
theorem Oc {K:Frag} {m:List Addr} {H:Hp}:∀l:List Nat,DVs K m H (l.map fun k=>D.int ((k:Nat):Int)) (l.map fun k=>V.int ((k:Nat):Int))
 |[]=>.nil
 |a::l=>.cons (by simp only [DV]) (Oc l)
noncomputable def LI:D→HD→Out D:=fun d h=>match d with
 |.int i=>@ite _ (0≤i∧i≤1000) (Classical.propDecidable _) (.ok (.tup ((List.range i.toNat).map fun k=>D.int ((k:Nat):Int))) h) .stuck
 |_=>.stuck
noncomputable def JV (f:ME):ME:=fun ρ h=>(f ρ h).bind LI
theorem R4 {e:Expr} {f:ME} {p q pos pos':Pos} (hc:X.calm=true) (hg1:Gl X "tuple") (hm1:X.mg "tuple"=none) (hg2:Gl X "range") (hm2:X.mg "range"=none) (hv1:bootBuiltins "tuple"=some (.type "tuple")) (he:Ev X E e f)
 (h1:starEach [e] X.env=(false,eval e X.env)::starEach [] X.env:=by rfl) (h2:(backTo pos' (starEach [] X.env)).any (·.1)=false:=by rfl)
 (h3:starEach [.Call (.Name "range" q) [e] [] pos'] X.env=(false,eval (.Call (.Name "range" q) [e] [] pos') X.env)::starEach [] X.env:=by rfl) (h4:(backTo pos (starEach [] X.env)).any (·.1)=false:=by rfl):
 Ev X E (.Call (.Name "tuple" p) [.Call (.Name "range" q) [e] [] pos'] [] pos) (JV f):=by
 refine BW (KH (YX hc) hg1 hm1 hv1 (Jh (KH YW hg2 hm2 boot_range (Jh he Jg h1) (by decide) (by decide) h1 h2) Jg h3) (by decide) (by decide) h3 h4) fun σ H Q z=>?_
 obtain ⟨m,ρ,h,hr,er,pp⟩:=z
 refine ⟨m,ρ,h,hr,er,Post.bind pp fun d h1 v m1 H1 eo p1 k1 hr1 r1 q1=>?_⟩
 unfold LI at q1
 split at q1
 ·rename_i i
  split at q1
  ·rename_i hi
   simp only [rD,DV] at r1
   obtain ⟨n,rfl⟩:∃n:Nat,i=(n:Int):=⟨i.toNat,by omega⟩
   subst r1
   refine ⟨n,rfl,by omega,fun a ha=>⟨a,n,rfl,B3,by omega,?_⟩⟩
   exact GE (X:=X) (E:=E) (H:=Ao H1 a (.ext (JU a n))) (hr1.new ha) (Oc (List.range n)) (Post.ahead (AQ _) (.new ha) (by simpa using q1))
  ·exact q1.elim
 ·exact q1.elim
theorem YY {f:ME} {ρ:Aj} {h:HD} {Q:D→HD→Prop}:Wp (JV f ρ h) Q=Wp (f ρ h) fun d h1=>Wp (LI d h1) Q:=by unfold JV;rw [AG]
theorem R5 {n:Nat} {h:HD} (hn:n≤1000):LI (.int (n:Int)) h=.ok (.tup ((List.range n).map fun k=>D.int ((k:Nat):Int))) h:=by
 show @ite _ (0≤(n:Int)∧(n:Int)≤1000) (Classical.propDecidable _) (Out.ok (D.tup ((List.range (n:Int).toNat).map fun k=>D.int ((k:Nat):Int))) h) Out.stuck=_
 rw [if_pos ⟨by omega,by omega⟩]
 simp
end
end LS
namespace LS
open PySem PySem.Spec PyProof.Rows L2 PySem.W
section
variable {X:Cx} {E:XK}
def YZ:D→HD→Out D:=fun x h=>match x with
 |.tup _=>.ok x h
 |_=>.stuck
def Zfh:D→D→HD→Out D:=fun x y h=>(YZ x h).bind fun _ _=>II x y h
mutual
def Od:PyData→Bool
 |.list _=>false
 |.tuple xs=>Oe xs
 |_=>true
def Oe:List PyData→Bool
 |[]=>true
 |x::xs=>Od x&&Oe xs
end
def Of (h:HD):Nat→D→Option PyData
 |_,.non=>some .none
 |_,.bl b=>some (.bool b)
 |_,.int i=>some (.int i)
 |_,.str x=>some (.str x)
 |_,.edic=>some (.dict [])
 |n+1,.tup ds=>(AV (ds.map (Of h n))).map .tuple
 |n+1,.loc l=>match h[l]? with
  |some (.lst ds)=>(AV (ds.map (Of h n))).map .list
  |_=>none
 |_,_=>none
inductive Y0 (h:Heap) (u:Value) (p:PyData):Prop where
 |mk (as:List Addr) (f1:Reads h u p as) (f2:Od p=true→sysModules∉as):Y0 h u p
inductive Y1 (h:Heap) (us:List Value) (ps:List PyData):Prop where
 |mk (as:List Addr) (f1:ReadsAll h us ps as) (f2:Oe ps=true→sysModules∉as):Y1 h us ps
variable {pins:List (Addr×Obj)} {σ:L2.St} {H:Hp} {s:Shared} {m:List Addr} {h:HD}
def Zfi:D→HD→Out D:=fun x h=>match Of h 8 x with
 |some p=>if p.showable=true∧(p.hasDict=false∨Od p=true)∧p.depth≤40∧p.shown.length≤sizeLine then .ok (.str p.shown) h else .stuck
 |none=>.stuck
end
end LS
namespace HT
open PySem PyProof.Rows
def lexLe:List Int→List Int→Bool
 |[],[]=>true
 |[],_::_=>true
 |_::_,[]=>false
 |x::xs,y::ys=>if x=y then lexLe xs ys else decide (x≤y)
section
open PySem.SeqAt
open PySem.AutoSeq1 (wpAny_loadPart')
open PySem.MeetsSeq PySem.MeetsSeq2 PySem.MeetsSeq3
end
section
variable {prog:Program} {w:World} {A:Around} {E:Value→Shared→Prop} {s:Shared}
end
end HT
namespace L2
open PySem PySem.Spec PyProof.Rows
section
variable {X:Cx}
def Zfj (K:PySem.W.Frag):R2:=fun x y H Q=>∃a b ns ms,x=.ref a∧y=.ref b∧SqT K H a (ns.map V.int)∧SqT K H b (ms.map V.int)∧Q (.bl (HT.lexLe ns ms)) H
end
end L2
namespace LS
open PySem PySem.Spec PyProof.Rows L2
section
variable {X:Cx} {E:XK}
def R6:D→Option (List Int)
 |.tup ds=>AV (ds.map FC)
 |_=>none
def Zfk (f:List Int→List Int→Bool):D→D→HD→Out D:=fun x y h=>match R6 x,R6 y with
 |some ns,some ms=>.ok (.bl (f ns ms)) h
 |_,_=>.stuck
end
section
variable {prog:Program} {w:World} {A:Around} {E:Value→Shared→Prop} {s:Shared}
end
section
variable {X:Cx} {E:XK} {e:Expr} {f:ME}
def Y2:D→HD→Out D:=fun x h=>match x with
 |.tup ds=>.ok (.tup ds.reverse) h
 |_=>.stuck
def Zfl (f:ME):ME:=fun ρ h=>(f ρ h).bind Y2
end
end LS
namespace LS
open PySem
section
variable {prog:Program} {w:World} {A:Around} {E:Value→Shared→Prop} {h:Heap} {g:Array GenState} {d:Drawn} {t:Nat} {os:OsState}
variable {nm q:Str} {C N:Addr} {bs bm bmB:List Value} {hdct:Bool} {sn:List Str} {sub:List Value} {ab:Bool} {col:Option Bool} {dd:Option Addr} {k0 k1 k2 k3 k5:Option Value} {B newId initId:String}
end
end LS
namespace LS
open PySem PySem.Spec PyProof.Rows L2
def Zfm (i j k:Nat):MG:=fun d ρ=>match d with
 |.tup [x,.tup [y,z]]=>some (((ρ.set i (some x)).set j (some y)).set k (some z))
 |_=>none
abbrev Zfn (K:PySem.W.Frag) (i j k:Nat):TG:=Gz K 2 (DX (De i) (DX (Gz K 2 (DX (De j) (DX (De k) Gy))) Gy))
def Og (elt:Expr) (gens:List Comprehension) (scope:Scope) (pos:Pos) (d:Nat) (acc:Value) (env:Env):Sem Unit:=match gens[d+1]? with
 |some g=>eval g.iter env >>=fun x=>standAt g.iter.pos >>=fun _=>foldedSetIterable g.iter env x >>=fun y=>holding [y] (pyIter y) >>=fun it=>
  runOwn (.compStart (.ListComp elt gens scope pos) (d+1) it acc env) env >>=fun _=>pure ()
 |none=>eval elt env >>=fun x=>call (.builtin "list.append") [acc,x] >>=fun _=>pure ()
theorem Y3 {elt tg iter:Expr} {gens:List Comprehension} {ifs:List Expr} {scope:Scope} {pos:Pos} {d:Nat} {it acc:Value} {env:Env} (hg:gens[d]?=some ⟨tg,iter,ifs,0⟩) (ha:∀g,gens[d+1]?=some g→g.is_async=0):
 compTurn (.ListComp elt gens scope pos) d it acc env=standAt iter.pos >>=fun _=>pyNext it >>=fun r=>match r with
  |none=>pure (.done .next)
  |some v=>letOwnedTupleGo tg it v >>=fun _=>assign tg env v >>=fun _=>(forIn ifs true fun c r=>if r=true then do let ok ←isTrue c env (eval c env);pure (ForInStep.yield ok) else pure (ForInStep.yield r)) >>=fun ok=>
   if ok=true then Og elt gens scope pos d acc env >>=fun _=>again (.compLoop (.ListComp elt gens scope pos) d it acc env) else again (.compLoop (.ListComp elt gens scope pos) d it acc env):=by
 unfold compTurn Og
 simp only [hg]
 cases e:gens[d+1]? with
 |none=>rfl
 |some g=>
  obtain ⟨a,b,c,k⟩:=g
  have:k=0:=ha _ e
  subst this
  simp only [bind_assoc,pure_bind]
  rfl
section
variable {prog:Program} {w:World} {A:Around} {R:Result→Shared→Prop} {s:Shared} {elt tg iter:Expr} {gens:List Comprehension} {ifs:List Expr} {scope:Scope} {pos:Pos} {d:Nat} {it acc:Value} {env:Env}
theorem loop_at (hg:gens[d]?=some ⟨tg,iter,ifs,0⟩) (ha:∀g,gens[d+1]?=some g→g.is_async=0) (I:Nat→Shared→Prop)
 (turn:∀n s,I n s→wpAny (model prog w) A (pyNext it) (fun r s₁=>match r with
  |none=>R (.ok .next) s₁
  |some v=>wpAny (model prog w) A (letOwnedTupleGo tg it v) (fun _ s₁'=>wpAny (model prog w) A (assign tg env v) (fun _ s₂=>
   wpAny (model prog w) A (forIn ifs true fun c r=>if r=true then do let ok ←isTrue c env (eval c env);pure (ForInStep.yield ok) else pure (ForInStep.yield r)) (fun ok s₃=>
    if ok=true then wpAny (model prog w) A (Og elt gens scope pos d acc env) (fun _ s₅=>∃m,m<n∧I m s₅) (fun _ _=>False) s₃ else ∃m,m<n∧I m s₃) (fun _ _=>False) s₂) (fun _ _=>False) s₁') (fun _ _=>False) s₁) (fun _ _=>False) s)
 (n:Nat) (h:I n s):codeAny (model prog w) A (.compLoop (.ListComp elt gens scope pos) d it acc env) R s:=by
 refine codeAny_loop rfl I (fun n s hI=>?_) n h
 show wpAny _ A ((compTurn (.ListComp elt gens scope pos) d it acc env).onRaise (fun x=>do noteFrame x env;theTreesLotGoes x)) _ _ s
 refine wpAny_noted ?_
 rw [Y3 hg ha]
 refine wpAny_bind (wpAny_standAt (wpAny_bind (wpAny_mono (turn n s hI) (fun r s₁ h₁=>?_) fun _ _ h'=>h'.elim)))
 cases r with
 |none=>exact wpAny_pure h₁
 |some v=>
  refine wpAny_bind (wpAny_mono h₁ (fun _ s₁' h₁'=>?_) fun _ _ h'=>h'.elim)
  refine wpAny_bind (wpAny_mono h₁' (fun _ s₂ h₂=>wpAny_bind (wpAny_mono h₂ (fun ok s₃ h₃=>?_) fun _ _ h'=>h'.elim)) fun _ _ h'=>h'.elim)
  cases ok with
  |false=>exact wpAny_pure ⟨rfl,h₃⟩
  |true=>exact wpAny_bind (wpAny_mono h₃ (fun _ s₅ h₅=>wpAny_pure ⟨rfl,h₅⟩) fun _ _ h'=>h'.elim)
end
abbrev Oh (its:List Value) (k:Nat):Obj:={cls:=.type "list",data:=.seq its.toArray k}
structure Zfo (X:Cx) (D:Addr):Prop where
 lo:D≠X.env.locals
 ce:∀x c,X.env.cells.lookup x=some c→c≠D
 pn:∀p∈X.pn,p.1≠D
 ex:D∈X.ex
 fs:D∉X.fs
section
variable {X:Cx} {D:Addr} {its its':List Value} {k k':Nat} {rest:List (Addr×Obj)} {σ:L2.St} {H:Hp} {s:Shared} {h':Heap}
def EM (X:Cx) (D:Addr) (em:Sem Unit) (te:L2.St→Hp→List V→(List V→Hp→Prop)→Prop):Prop:=
 ∀(rest:List (Addr×Obj)) (its:List Value) (k:Nat) (acc:List V) (σ:L2.St) (H:Hp) (s:Shared) (Q:List V→Hp→Prop),Inv X ((D,Oh its k)::rest) σ H s→(∀p∈rest,p.1≠D)→Vals acc its→te σ H acc Q→
  wpAny (model X.prog X.w) X.A em (fun _ s'=>∃its' k' acc' H',Inv X ((D,Oh its' k')::rest) σ H' s'∧Vals acc' its'∧Q acc' H') (fun _ _=>False) s
def Zfp (te:TE):L2.St→Hp→List V→(List V→Hp→Prop)→Prop:=fun σ H acc Q=>acc.length<sizeLine∧te σ H fun y H'=>Q (acc++[y]) H'
def Zfq (wi:TI) (g:TG) (tc:TT) (te:L2.St→Hp→List V→(List V→Hp→Prop)→Prop):L2.St→Hp→List V→(List V→Hp→Prop)→Prop:=fun σ H acc Q=>wi σ H fun J H1=>∃W:Nat→Nat→List V→Hp→Prop,(∃n,W 0 n acc H1)∧∀i n acc H,W i n acc H→
 (J.stop i H∧Q acc H)∨
 (J.go i H∧∀x H',J.yld i H x H'→g x σ H' fun σ2 H2=>Sub σ σ2∧tc σ2 H2 fun b H3=>if b=true then te σ2 H3 acc fun acc' H4=>∃n',n' < n∧W (i+1) n' acc' H4 else ∃n',n' < n∧W (i+1) n' acc H3)
inductive Y4 (X:Cx) (D:Addr) (rest:List (Addr×Obj)) (σ:L2.St) (W:Nat→Nat→List V→Hp→Prop) (tn:Nat→Heap→Prop) (fp:List Addr) (n:Nat) (s':Shared):Prop where
 |mk (i:Nat) (acc:List V) (H':Hp) (its:List Value) (k:Nat) (w:W i n acc H') (ii:Inv X ((D,Oh its k)::rest) σ H' s') (st:tn i s'.heap) (fr:∀b∈fp,H' b=none) (rv:Vals acc its):Y4 X D rest σ W tn fp n s'
end
def Zfr (cs:List (Option Nat)) (wi:TI) (g:TG) (tc:TT) (te:L2.St→Hp→List V→(List V→Hp→Prop)→Prop):TE:=fun σ H Q=>wi σ H fun J H1=>∃W:Nat→Nat→List V→Hp→Prop,(∃n,W 0 n [] H1)∧∀i n acc H,W i n acc H→
 (J.stop i H∧acc.length≤sizeLine∧∀p,H p=none→Q (.ref p) (Ao H p (.lst acc)))∨
 (J.go i H∧∀x H',J.yld i H x H'→g x (BG cs σ) H' fun σ2 H2=>Sub (BG cs σ) σ2∧tc σ2 H2 fun b H3=>if b=true then te σ2 H3 acc fun acc' H4=>∃n',n' < n∧W (i+1) n' acc' H4 else ∃n',n' < n∧W (i+1) n' acc H3)
section
variable {X:Cx} {elt tg iter:Expr} {ifs:List Expr} {gs:List Comprehension} {scope:Scope} {pos:Pos} {Nc:List Str} {cs:List (Option Nat)} {wi:TI} {g:TG} {tc:TT} {te:L2.St→Hp→List V→(List V→Hp→Prop)→Prop}
end
abbrev Ea:=Aj→HD→List D→Out (List D)
abbrev R7:=L2.St→Hp→List V→(List V→Hp→Prop)→Prop
def Frs (js:List Nat) (σ:L2.St):Prop:=∀j∈js,σ[j]?=some none
def Zfs (K:PySem.W.Frag) (is js:List Nat) (gg:TG) (sg:MG):Prop:=
 ∀m H d v ρ σ ρ' Q,DV K m H d v→ER K m H ρ σ→Frs (is++js) σ→sg d ρ=some ρ'→(∀σ',Sub σ σ'→Frs js σ'→ER K m H ρ' σ'→Q σ' H)→gg v σ H Q
theorem Frs.set {js:List Nat} {σ:L2.St} {i:Nat} {v:Option V} (h:Frs js σ) (n:i∉js):Frs js (σ.set i v):=fun j hj=>by
 have hn:i≠j:=by
  rintro rfl
  exact n hj
 rw [BV hn]
 exact h j hj
noncomputable def Zft (f:ME):Ea:=fun ρ h acc=>if acc.length<sizeLine then (noErr (f ρ h)).bind fun y h2=>.ok (acc++[y]) h2 else .stuck
open Classical in
noncomputable def JW (src:Bi) (items:List D) (sg:MG) (t:MT) (e:Ea) (ρ:Aj):List D→HD→List D→Out (List D)
 |[],h,acc=>if By src items h then .ok acc h else .stuck
 |d::ds,h,acc=>if By src items h then match sg d ρ with
   |none=>.stuck
   |some ρ1=>(noErr (t ρ1 h)).bind fun b h1=>if b=true then (noErr (e ρ1 h1 acc)).bind fun acc2 h2=>JW src items sg t e ρ ds h2 acc2 else JW src items sg t e ρ ds h1 acc
  else .stuck
noncomputable def Zfu (it:MI) (sg:MG) (t:MT) (e:Ea):Ea:=fun ρ h acc=>(noErr (it ρ h)).bind fun x h1=>JW x.2 x.1 sg t e ρ x.1 h1 acc
noncomputable def LJ (cs:List (Option Nat)) (it:MI) (sg:MG) (t:MT) (e:Ea):ME:=fun ρ h=>(it ρ h).bind fun x h1=>(JW x.2 x.1 sg t e (Cn cs ρ) x.1 h1 []).bind B6
def tEm (K:PySem.W.Frag) (js:List Nat) (e:Ea):R7:=fun σ H acc Q=>∃m ρ h dacc,HR K m h H∧ER K m H ρ σ∧DVs K m H dacc acc∧Frs js σ∧Post K (EV K) m H E0 Q (e ρ h dacc)
theorem EM.imp {X:Cx} {D:Addr} {em:Sem Unit} {te te':R7} (h:EM X D em te) (f:∀σ H acc Q,te' σ H acc Q→te σ H acc Q):EM X D em te':=
 fun rest its k acc σ H s Q I hr rv z=>h rest its k acc σ H s Q I hr rv (f _ _ _ _ z)
inductive Y5 {β:Type} (K:PySem.W.Frag) (E:XK) (α:Type) (R:List Addr→Hp→α→β→Prop) (Q:β→Hp→Prop) (kk:List D→HD→Out α) (src:Bi) (items:List D) (sg:MG) (t:MT) (e:Ea) (ρ:Aj) (m1:List Addr) (H1:Hp) (i n:Nat) (acc:List V) (H2:Hp):Prop where
 |mk (en:n=items.length - i) (l:i≤items.length) (m2:List Addr) (h2:HD) (dacc:List D) (p:m1 <+:m2) (k:Kp H1 H2) (hr:HR K m2 h2 H2) (da:DVs K m2 H2 dacc acc) (q:Post K R m2 H2 E Q ((JW src items sg t e ρ (items.drop i) h2 dacc).bind kk)):Y5 K E α R Q kk src items sg t e ρ m1 H1 i n acc H2
section
variable {X:Cx} {E:XK} {D:Addr} {elt tg iter:Expr} {ifs:List Expr} {gs gens:List Comprehension} {scope:Scope} {pos:Pos} {Nc:List Str} {cs:List (Option Nat)} {it:MI} {gg:TG} {sg:MG} {t:MT} {f:ME} {e:Ea} {d:Nat} {is js:List Nat}
end
section
variable {α β:Type} {cs:List (Option Nat)} {it:MI} {sg:MG} {t:MT} {f:ME} {e:Ea} {ρ:Aj} {h:HD} {src:Bi} {xs:List α} {φ:α→D} {acc:List D}
noncomputable def Y6 (cs:List (Option Nat)) (it:MI) (sg:MG) (t:MT) (e:Ea):ME:=Ag (An BJ) (Aa (LJ cs it sg t e) Ad)
noncomputable def Y7 (cs:List (Option Nat)) (it:MI) (sg:MG) (t:MT) (e:Ea):ME:=Ag (An Eo) (Aa (LJ cs it sg t e) Ad)
@[simp] theorem Zfv:Ag (An BJ) (Aa (LJ cs it sg t e) Ad) ρ h=Y6 cs it sg t e ρ h:=rfl
@[simp] theorem Zfw:Ag (An Eo) (Aa (LJ cs it sg t e) Ad) ρ h=Y7 cs it sg t e ρ h:=rfl
end
end LS
namespace LS
open PySem
inductive TlN (h:Heap) (ns:List Str) (bB:List Value):List Value→Prop
 |base:TlN h ns bB bB
 |own {a:Addr} {c0:Value} {dd:Option Addr} {cd:ClassData} {sl:Array (Option Value)} {m:Str→Option Value} {tl:List Value} (ha:h.get? a=some {cls:=c0,dict:=dd,data:=.cls cd,slots:=sl}) (hm:h.Ns cd.ns m) (no:∀n∈ns,m n=none) (r:TlN h ns bB tl):TlN h ns bB (.ref a::tl)
theorem TlN.keeps {h h':Heap} {ns:List Str} {bB tl:List Value} (T:TlN h ns bB tl) (k:∀b o,h.get? b=some o→h'.get? b=some o):TlN h' ns bB tl:=by
 induction T with
 |base=>exact .base
 |own ha hm no _ ih=>exact .own (k _ _ ha) (hm.keeps k) no ih
theorem TlN.has {h:Heap} {ns:List Str} {bB tl:List Value} {v:Value} (T:TlN h ns bB tl) (hv:bB.contains v=true):tl.contains v=true:=by
 induction T with
 |base=>exact hv
 |own ha hm no _ ih=>rw [List.contains_cons,ih,Bool.or_true]
section
variable {M:Model} {A:Around} {E:Value→Shared→Prop} {h:Heap} {g:Array GenState} {d:Drawn} {t:Nat} {os:OsState}
theorem TlN.look {ns:List Str} {bB tl:List Value} {n:Str} {y:Option Value} {Q:Option Value→Shared→Prop} (T:TlN h ns bB tl) (hn:n∈ns) (e:lookupAlong bB n=pure y) (q:Q y ⟨h,g,d,t,os⟩):wpAny M A (lookupAlong tl n) Q E ⟨h,g,d,t,os⟩:=by
 induction T with
 |base=>rw [e];exact wpAny_pure q
 |own ha hm no _ ih=>
  rw [lookupAlong_cons];refine wpAny_bind (wpAny_classOwn_cls ha hm ?_);rw [no n hn]
  exact ih
variable {nm q:Str} {C N x:Addr} {bs bm bB:List Value} {hd:Bool} {sn:List Str} {sub:List Value} {ab:Bool} {col:Option Bool} {dd:Option Addr} {k0 k1 k2 k3 k5:Option Value} {B newId sa owner:String} {ns:List Str} {mN mA:Str→Option Value} {name:Str} {v:Value}
end
section
variable {prog:Program} {w:World} {A:Around} {E:Value→Shared→Prop} {h:Heap} {g:Array GenState} {d:Drawn} {t:Nat} {os:OsState}
variable {nm q:Str} {C N x:Addr} {bs bm bB:List Value} {sn:List Str} {sub:List Value} {ab:Bool} {col:Option Bool} {dd:Option Addr} {k0 k1 k2 k3 k5:Option Value} {B newId sa owner:String} {ns:List Str} {mN mA:Str→Option Value} {name:Str} {v:Value}
structure Zfx (h h':Heap) (x C:Addr) (name:Str) (v:Value) (mA:Str→Option Value):Prop where
 inst:h'.Inst x C (fun y=>if y=name then some v else mA y)
 keep:∀b o,b≠x→(∀o0 dx,h.get? x=some o0→o0.dict=some dx→b≠dx)→h.get? b=some o→h'.get? b=some o
 new:∀o0,h.get? x=some o0→o0.dict=none→∃o1,h'.get? x=some o1∧o1.dict=some h.objs.size
 same:∀o0,h.get? x=some o0→∃o1,h'.get? x=some o1∧o1.cls=o0.cls∧o1.data=o0.data∧o1.slots=o0.slots∧∀dx,o0.dict=some dx→o1.dict=some dx
end
section
variable {prog:Program} {w:World} {A:Around} {E:Value→Shared→Prop} {h:Heap} {g:Array GenState} {d:Drawn} {t:Nat} {os:OsState}
variable {nm q:Str} {C N x:Addr} {bs bm bB:List Value} {sn:List Str} {sub:List Value} {ab:Bool} {col:Option Bool} {dd:Option Addr} {k0 k1 k2 k3 k5:Option Value} {B newId:String} {ns:List Str} {mN mA:Str→Option Value} {name:Str} {v:Value}
end
end LS
namespace LS
open PySem PySem.Spec PyProof.Rows L2
def tmNames:List Str:=["__init__","__setattr__","__getattribute__","__getattr__","many","most"]
def R8 (K:PySem.W.Frag) (ns:List Str) (bB:List Value):List Value→Bool
 |[]=>bB==[]
 |v::r=>(v::r)==bB||match v with
  |.ref a=>(match K.lookup a with
   |some o=>(match clsOf o.data with
    |some cd=>PySem.W.nsOkIn K cd.ns&&(ns.all (fun n=>PySem.W.nsIn K cd.ns n==some none)&&R8 K ns bB r)
    |none=>false)
   |none=>false)
  |_=>false
theorem TlN.tail {h:Heap} {ns:List Str} {bB tl:List Value} (T:TlN h ns bB tl) (hi:("__init__":Str)∈ns):OwnTail h bB tl:=by
 induction T with
 |base=>exact .base
 |own ha hm no _ ih=>exact .own ha hm (no _ hi) ih
inductive Y8 (h:Heap) (C fI:Addr):Prop where
 |mk (bm:List Value) (N:Addr) (nm q:Str) (bs:List Value) (sn:List Str) (sub:List Value) (ab:Bool) (col:Option Bool) (dd:Option Addr) (k0 k1 k2 k3 k5:Option Value) (mN:Str→Option Value)
  (hC:h.get? C=some (excClassObj nm q C N bs bm true sn sub ab col dd k0 k1 k2 k3 k5 "ValueError.__new__")) (hN:h.Ns N mN) (hi:mN "__init__"=some (.ref fI)) (no:∀n∈tmNames.tail,mN n=none) (T:TlN h tmNames JL bm):Y8 h C fI
def Y9 (K:PySem.W.Frag) (C fI:Addr) (o:Obj) (cd:ClassData):Bool:=
 decide (o.cls=.type "type")&&(decide (cd.mro=.ref C::cd.mro.tail)&&(!cd.hasDel&&(R8 K tmNames JL cd.mro.tail&&(PySem.W.nsOkIn K cd.ns&&(PySem.W.nsIn K cd.ns "__init__"==some (some (.ref fI))&&(tmNames.tail.all (fun n=>PySem.W.nsIn K cd.ns n==some none)&&(decide (o.slots.toList.length=6)&&(decide (o.slots.toList[4]?=some (some (.builtin "ValueError.__new__")))&&cd.hasDict))))))))
def tmX (K:PySem.W.Frag) (C fI:Addr):Bool:=match K.lookup C with
 |some o=>(match clsOf o.data with
  |some cd=>Y9 K C fI o cd
  |none=>false)
 |none=>false
def Za (C t0:Addr) (da:Option Addr):Obj:={cls:=.ref C,dict:=da,data:=.fields #[.ref t0,.none,.none,.none,.bool false,.none]}
def LM (C e:Addr) (da:Option Addr) (h:Heap):Prop:=∃t0,h.get? e=some (Za C t0 da)
def Zfy (d:Addr) (m:Str→Option Value) (h:Heap):Prop:=h.Ns1 d m
def one (n:Str) (u:Value):Str→Option Value:=fun y=>if y=n then some u else none
section
variable {X:Cx} {pins:List (Addr×Obj)} {σ:L2.St} {H:Hp} {s:Shared} {E:Value→Shared→Prop} {A:Around} {C fI e da:Addr} {n:Str} {u:Value}
def del (H:Hp) (a:Addr):Hp:=fun b=>if b=a then none else H b
theorem R9 {H:Hp} {a b:Addr} (h:b≠a):del H a b=H b:=by unfold del;rw [if_neg h]
theorem Kp.del {H:Hp} {a:Addr} {φ:Heap→Prop} (h:H a=some (.mex φ)):Kp H (LS.del H a):=fun b o e i=>by
 rw [R9]
 ·exact e
 ·intro z
  rw [z,h] at e;cases e;cases i
theorem HR.del {K:PySem.W.Frag} {m:List Addr} {h:HD} {H:Hp} {a:Addr} {φ:Heap→Prop} (r:HR K m h H) (e:H a=some (.mex φ)):HR K m h (LS.del H a):=r.same (.del e) fun b hb=>R9 fun z=>by
 subst z
 obtain ⟨l,hl,el⟩:=Kj hb
 have hl':l<h.length:=by rw [←r.len];exact hl
 have c:=r.cells l h[l] m[l] (Bb hl') (Bb hl)
 rw [el] at c
 cases hc:h[l] with
 |lst ds=>rw [hc] at c;obtain ⟨vs,q,_⟩:=c;rw [e] at q;cases q
 |tab=>rw [hc] at c;obtain ⟨_,ps,q,_⟩:=c;rw [e] at q;cases q
end
end LS
namespace LS
open PySem PySem.Spec PyProof.Rows L2 PySem.Calls PySem.W
def swX (K:PySem.W.Frag) (S:Addr):Bool:=PySem.W.readsIn K S (.type "type")&&(match PySem.W.findCls K (.ref S) (.type "type") "__init__" with
 |some (.val (.builtin b))=>b=="ValueError.__init__"
 |_=>false)
def Zfz (H₀:Hp) (C:Addr) (ta:TA):TE:=fun σ H Q=>∃e,H₀ e≠none∧H e=some (.mex (LM C e none))∧ta σ (del H e) fun vs H1=>∃x,vs=[.ref e,.str x]∧(H1 e=none→Q .non (Ao H1 e (.mex (LM C e none))))
section
variable {X:Cx} {C fI S:Addr} {ta:TA} {a1 a2:Expr} {p1 p2 p5:Pos}
end
end LS
namespace LS
open PySem PySem.Spec PyProof.Rows L2 PySem.Calls
section
variable {X:Cx} {C fI S:Addr}
end
noncomputable abbrev Sa:ME:=N6 (RK (Ab 1) (YA " are more than " (RK (Ab 2) Yz)))
inductive Sb (K:PySem.W.Frag) (C:Addr) (vs:List V) (H:Hp) (Q:VK) (E:XK):Prop
 |mk (e:Addr) (a b:Int) (m:List Addr) (h h2:HD) (x:Str) (ev:vs=[.ref e,.int a,.int b]) (hr:HR K m h H) (hH:H e=some (.mex (LM C e none))) (hj:Sa [none,some (.int a),some (.int b)] h=.ok (.str x) h2)
  (q:∀m1 H1 da,m <+:m1→Kp (del H e) H1→HR K m1 h2 H1→H1 e=none→H1 da=none→da≠e→Q .non (Ao (Ao H1 e (.mex (LM C e (some da)))) da (.xd [("many",.int a),("most",.int b)]))):Sb K C vs H Q E
section
variable {P:Program} {w:World} {K:PySem.W.Frag} {mg:Str→Option Value} {base:Heap} {C f S:Addr} {k:Nat} {qual:Str} {scope:Scope} {p1 p2 p3 p4 p5 p6 q1 q2 q3 q4 r1 r2 r3 r4:Pos} {js:Expr}
abbrev ZfA (js:Expr) (p1 p2 p3 p5 p6 q1 q2 q3 q4 r1 r2 r3 r4:Pos):List Stmt:=[.Expr (.Call (.Attribute (.Name "SwitchError" p1) "__init__" p2) [.Name "self" p3,js] [] p5) p6,.Assign [.Attribute (.Name "self" q1) "many" q2] (.Name "many" q3) q4,.Assign [.Attribute (.Name "self" r1) "most" r2] (.Name "most" r3) r4]
end
noncomputable def ZfB (fa:MA):MS:=fun ρ h=>(fa ρ h).bind fun xs h1=>match xs with
 |[.int a,.int b]=>(match Sa [none,some (.int a),some (.int b)] h1 with
  |.ok (.str _) h2=>.err (Es "TooMany") [("many",.int a),("most",.int b)] h2
  |_=>.stuck)
 |_=>.stuck
section
variable {X:Cx} {E:XK} {C fI:Addr} {fd:FuncData} {k:Nat}
end
def Zb (nm:Str):D→HD→Out D
 |.exc n fs,h=>if n="TooMany" then (match fs.lookup nm with
  |some i=>.ok (.int i) h
  |none=>.stuck) else .stuck
 |_,_=>.stuck
noncomputable def ZfC (f:ME) (nm:Str):ME:=fun ρ h=>(f ρ h).bind fun d h1=>Zb nm d h1
section
variable {X:Cx} {E:XK} {C fI:Addr}
end
end LS
namespace Tp
open PySem PySem.W PySem.Spec PySem.Calls PyProof.Rows
section
variable {α β:Type}
noncomputable def fN (n:Nat) (k:Nat→α):α:=@Nat.rec (fun _=>α) (k 0) (fun m _=>k (Nat.succ m)) n
theorem LN (n:Nat) (k:Nat→α):fN n k=k n:=by cases n<;>rfl
noncomputable def fL (l:List β):(List β→α)→α:=@List.rec β (fun _=>(List β→α)→α) (fun k=>k []) (fun a _ ih k=>ih fun l'=>k (a::l')) l
theorem JX:∀(l:List β) (k:List β→α),fL l k=k l
 |[],_=>rfl
 |a::l,k=>JX l fun l'=>k (a::l')
noncomputable def fE (l:List DictEntry):(List DictEntry→α)→α:=@List.rec DictEntry (fun _=>(List DictEntry→α)→α) (fun k=>k []) (fun a _ ih k=>ih fun l'=>@DictEntry.rec (fun _=>α) (fun x y z=>k (⟨x,y,z⟩::l')) a) l
theorem Se:∀(l:List DictEntry) (k:List DictEntry→α),fE l k=k l
 |[],_=>rfl
 |⟨_,_,_⟩::l,k=>Se l fun l'=>k (_::l')
noncomputable def fD (d:Data) (k:Data→α):α:=@Data.rec (fun _=>α) (k .plain) (fun v=>k (.prim v)) (fun x n=>@Array.rec Value (fun _=>α) (fun l=>fL l fun l=>fN n fun n=>k (.seq ⟨l⟩ n)) x)
 (fun x n=>@Array.rec DictEntry (fun _=>α) (fun l=>fE l fun l=>fN n fun n=>k (.dict ⟨l⟩ n)) x) (fun x n t=>k (.set x n t)) (fun b n=>k (.bytearray b n)) (fun v=>k (.cell v)) (fun f=>k (.func f)) (fun c=>k (.cls c))
 (fun x=>@Array.rec Value (fun _=>α) (fun l=>fL l fun l=>k (.fields ⟨l⟩)) x) (k .freed) d
theorem Zc (d:Data) (k:Data→α):fD d k=k d:=by
 cases d with
 |seq x n=>cases x;simp only [fD,JX,LN]
 |dict x n=>cases x;simp only [fD,Se,LN]
 |fields x=>cases x;simp only [fD,JX]
 |_=>rfl
noncomputable def fO (o:Obj) (k:Obj→α):α:=@Obj.rec (fun _=>α) (fun c d da sl=>fD da fun da=>k ⟨c,d,da,sl⟩) o
theorem Sg (o:Obj) (k:Obj→α):fO o k=k o:=by cases o;simp only [fO,Zc]
noncomputable def fT (t:BT):(BT→α)→α:=@BT.rec (fun _=>(BT→α)→α) (fun k=>k .nil) (fun v _ _ il ir k=>fO v fun v=>il fun l=>ir fun r=>k (.node v l r)) t
theorem Oi:∀(t:BT) (k:BT→α),fT t k=k t
 |.nil,_=>rfl
 |.node v l r,k=>by
  show fO v (fun v=>fT l fun l=>fT r fun r=>k (.node v l r))=_
  rw [Sg,Oi l,Oi r]
noncomputable def fS (s:SharedT) (k:SharedT→α):α:=@SharedT.rec (fun _=>α) (fun t n li g d tk os=>fT t fun t=>fN n fun n=>fN tk fun tk=>@Drawn.rec (fun _=>α) (fun a b c e=>@Array.rec GenState (fun _=>α) (fun g=>fL g fun g=>k ⟨t,n,li,⟨g⟩,⟨a,b,c,e⟩,tk,os⟩) g) d) s
theorem Oj (s:SharedT) (k:SharedT→α):fS s k=k s:=by
 obtain ⟨t,n,li,⟨g⟩,⟨a,b,c,e⟩,tk,os⟩:=s
 simp only [fS,Oi,LN,JX]
noncomputable def fP (p:Pos) (k:Pos→α):α:=@Pos.rec (fun _=>α) (fun a b c d=>fN a fun a=>fN b fun b=>fN c fun c=>fN d fun d=>k ⟨a,b,c,d⟩) p
theorem Ol (p:Pos) (k:Pos→α):fP p k=k p:=by cases p;simp only [fP,LN]
end
section
variable (stp:SharedT→Thread→Option (SharedT×Thread)) (ok:Thread→Bool) (seg:Nat→SharedT→Thread→Option (Flow×SharedT×Code×Pos))
noncomputable def IQ (env:Env) (c:Code) (f:Nat):List (List Stmt)→SharedT→Pos→List Code→Option (SharedT×Pos×List Code)
 |[],s,pos,cs=>some (s,pos,cs)
 |l::ls,s,pos,cs=>match seg f s (piecesOf l env c pos [topFrame ⟨0,0,0,0⟩]) with
  |some (.next,s',c',pos')=>fS s' fun s'=>fP pos' fun pos'=>IQ env c f ls s' pos' (c'::cs)
  |_=>none
def LO:Nat→SharedT→Thread→Option (SharedT×Thread)
 |0,s,t=>some (s,t)
 |n+1,s,t=>match through t with
  |true=>none
  |false=>match ok t with
   |false=>none
   |true=>match stp s t with
    |some (s',t')=>LO n s' t'
    |none=>none
def LP:Nat→SharedT→Thread→Option SharedT
 |0,_,_=>none
 |n+1,s,t=>match through t with
  |true=>some s
  |false=>match ok t with
   |false=>none
   |true=>match stp s t with
    |some (s',t')=>LP n s' t'
    |none=>none
def cut:Nat→List Stmt→List (List Stmt)
 |0,l=>[l]
 |n+1,l=>match l with
  |[]=>[]
  |x::l=>[x]::cut n l
theorem Sh:∀(n:Nat) (l:List Stmt),(cut n l).flatten=l
 |0,l=>by simp [cut]
 |_+1,[]=>rfl
 |n+1,x::l=>by simp [cut,Sh n l]
theorem Si:∀(n:Nat) (l:List Stmt),(cut n l).length≤n+1
 |0,l=>AF _
 |_+1,[]=>DE _
 |n+1,x::l=>Kn (Si n l)
def Om (p:Program):Env:={scope:=p.main.scope,locals:=mainNs,globals:=mainNs,cells:=[],code:=.ref 13,frame:=some 14}
def GT (p:Program):Code:=.body (behindTheImports p) (Om p)
noncomputable def Fc (p:Program) (S0:SharedT):Option (Thread×List Code×SharedT):=match LO stp ok 12 S0 (topStub p) with
 |some (sa,ta)=>match seg 1 sa (blockOf (behindTheImports p) (Om p) (GT p) ⟨0,0,0,0⟩ [topFrame ⟨0,0,0,0⟩]) with
  |some (.next,sb,cb,pb)=>fS sb fun sb=>fP pb fun pb=>match IQ seg (Om p) (GT p) 2000 (cut 400 (behindTheImports p)) sb pb [cb] with
   |some (sf,pf,cs)=>match LP stp ok 2 sf ⟨doneF .next,GT p,pf,[topFrame ⟨0,0,0,0⟩]⟩ with
    |some sg=>some (ta,cs,sg)
    |none=>none
   |none=>none
  |_=>none
 |none=>none
end
noncomputable def Sj (P:Params) (os:OsState):SharedT:=⟨((boot_heap P).objs.toList.foldl (fun (x:BT×Nat) o=>(x.1.ins x.2 o,x.2+1)) (.nil,0)).1,11,(boot_heap P).life,⟨[]⟩,boot_drawn,boot_toks,os⟩
theorem Zd (P:Params) (os:OsState):(Sj P os).abs=⟨boot_heap P,⟨[]⟩,boot_drawn,boot_toks,os⟩:=by kernel_rfl
section
variable {α:Type}
noncomputable def On (l:List Obj):(List Obj→α)→α:=@List.rec Obj (fun _=>(List Obj→α)→α) (fun k=>k []) (fun a _ ih k=>fO a fun a=>ih fun l'=>k (a::l')) l
theorem Sk:∀(l:List Obj) (k:List Obj→α),On l k=k l
 |[],_=>rfl
 |a::l,k=>by show fO a (fun a=>On l fun l'=>k (a::l'))=_;rw [Sg,Sk]
noncomputable def A1 (s:SharedT) (k:Shared→α):α:=On (s.tree.list s.n) fun l=>k ⟨⟨⟨l⟩,s.life⟩,s.gens,s.drawn,s.toks,s.os⟩
theorem Ze (s:SharedT) (k:Shared→α):A1 s k=k s.abs:=Sk _ _
end
section
variable {tb:String→Option Builtin} {p:Program} {w:World} {m0:Nat} {ann:Option Value}
theorem Sl:∀{n:Nat} {s s':SharedT} {t t':Thread},LO (stepT (denote tb) p w) (stepOk m0 ann) n s t=some (s',t')→topGo tb p w m0 ann n s.abs t=some (s'.abs,t')
 |0,_,_,_,_,h=>by cases h;rfl
 |n+1,s,s',t,t',h=>by
  unfold LO at h
  unfold topGo
  cases he:through t with
  |true=>rw [he] at h;cases h
  |false=>
   rw [he] at h
   cases hk:stepOk m0 ann t with
   |false=>rw [hk] at h;cases h
   |true=>
    rw [hk] at h
    cases hs:stepT (denote tb) p w s t with
    |none=>rw [hs] at h;cases h
    |some r=>obtain ⟨s₂,t₂⟩:=r;rw [hs] at h;rw [stepT_spec hs];exact Sl h
theorem Sn:∀{n:Nat} {s s':SharedT} {t:Thread},LP (stepT (denote tb) p w) (stepOk m0 ann) n s t=some s'→topRun tb p w m0 ann n s.abs t=some s'.abs
 |0,_,_,_,h=>by cases h
 |n+1,s,s',t,h=>by
  unfold LP at h
  unfold topRun
  cases he:through t with
  |true=>rw [he] at h;cases h;rfl
  |false=>
   rw [he] at h
   cases hk:stepOk m0 ann t with
   |false=>rw [hk] at h;cases h
   |true=>
    rw [hk] at h
    cases hs:stepT (denote tb) p w s t with
    |none=>rw [hs] at h;cases h
    |some r=>obtain ⟨s₂,t₂⟩:=r;rw [hs] at h;rw [stepT_spec hs];exact Sn h
theorem Oo {seg:Nat→SharedT→Thread→Option (Flow×SharedT×Code×Pos)} {env:Env} {c:Code} {f:Nat}:∀{ls:List (List Stmt)} {s sf:SharedT} {pos pf:Pos} {c0 cs:List Code},IQ seg env c f ls s pos c0=some (sf,pf,cs)→∀x∈c0,x∈cs
 |[],_,_,_,_,_,_,h,x,hx=>by cases h;exact hx
 |l::ls,s,sf,pos,pf,c0,cs,h,x,hx=>by
  unfold IQ at h
  split at h
  ·rw [Oj,Ol] at h;exact Oo h x (.tail _ hx)
  ·cases h
theorem So {env:Env} {c:Code} {f:Nat}:∀{ls:List (List Stmt)} {s sf:SharedT} {pos pf:Pos} {c0 cs:List Code},IQ (segRunT tb p w m0 ann 1) env c f ls s pos c0=some (sf,pf,cs)→(∀x∈cs,x=c)→∀{N:Nat} {r:Shared},
 topRun tb p w m0 ann N sf.abs ⟨doneF .next,c,pf,[topFrame ⟨0,0,0,0⟩]⟩=some r→topRun tb p w m0 ann (ls.length*f+N) s.abs (restOf ls.flatten env c pos [topFrame ⟨0,0,0,0⟩])=some r
 |[],s,sf,pos,pf,c0,cs,h,hc,N,r,k=>by
  cases h
  rw [Gs,Nat.zero_mul,Nat.zero_add]
  exact piece_nil k
 |l::ls,s,sf,pos,pf,c0,cs,h,hc,N,r,k=>by
  unfold IQ at h
  split at h
  ·rename_i s' c' pos' e
   rw [Oj,Ol] at h
   have e1:=segRun_of e
   rw [hc c' (Oo h c' (.head _))] at e1
   have:=piece_app (rest:=ls.flatten) e1 (So h hc k)
   rw [HJ,Nat.succ_mul,Nat.add_comm (ls.length*f) f,Nat.add_assoc]
   exact this
  ·cases h
end
noncomputable def Zf {α:Type} (OS:Program→List Str→List Str→(Shared→Bool)→Bool→Shared→_) (IM:List Stmt→List Str) (p q:Program) (loose:List Str) (Yf:Shared→α) (H₀:Heap) (s:Shared):=
 ((staticsOk (IM p.main.body) H₀ s.heap&&namesBound p s.heap&&gensDone s&&laidKept H₀ s.heap),(OS q loose (IM p.main.body) (fun _=>true) true s:type_of% (openSeen q loose [] (fun _=>true) true s)),Yf s)
theorem left_of {p q:Program} {loose:List Str} {α:Type} {Yf:Shared→α} {Ya:World→α} {n:Nat} (e:opening p=plainProg p.main.scope.names) (fm:∀s,fenceModules? p s=some s)
 (size:∀w:World,((boot_heap w.params).isNs mainGlobals&&(Array.mk ([]:List GenState)).size==0,(boot_heap w.params).objs.size,(boot_heap w.params).nsMap mainGlobals "__annotations__")=(true,11,some (.ref 6)))
 (h:∀(w:World) (os:OsState),(Fc (stepT (denote treeTable) p w) (stepOk 11 (some (.ref 6))) (segRunT treeTable p w 11 (some (.ref 6)) 1) p (Sj w.params os)).map (fun r=>(r.1,r.2.1,A1 r.2.2 (Zf openSeen importedModules p q loose Yf (boot_heap w.params))))=
  some (⟨denote treeTable (GT p),GT p,⟨0,0,0,0⟩,[topFrame ⟨0,0,0,0⟩]⟩,List.replicate n (GT p),(true,openGood q loose,Ya w))):
 LeftO p q loose (fun _=>true) Yf Ya 1000000:=fun w=>by
 obtain ⟨⟨hp,gs,d,k,os⟩,e0,e'⟩:=qaV.mp (boot_open (N:=1000000) e rfl fm w)
 obtain ⟨rfl,rfl,rfl,rfl⟩:hp=boot_heap w.params∧gs=Array.mk []∧d=boot_drawn∧k=boot_toks:=by simpa using e'
 obtain ⟨z1,z2,z3⟩:_∧_∧_:=by simpa only [Prod.mk.injEq] using size w
 obtain ⟨⟨ta,cs,sg⟩,h1,h2⟩:=qaV.mp (h w os)
 dsimp only at h2
 rw [Ze] at h2
 obtain ⟨h3,h4⟩:=Prod.mk.inj h2
 obtain ⟨h5,h6⟩:=Prod.mk.inj h4
 obtain ⟨l1,h7⟩:=Prod.mk.inj h6
 obtain ⟨l2,l3⟩:=Prod.mk.inj h7
 have hcs:∀x∈cs,x=GT p:=fun x hx=>by rw [h5] at hx;exact MK hx
 have run:topRun treeTable p w 11 (some (.ref 6)) 1000000 ⟨boot_heap w.params,Array.mk [],boot_drawn,boot_toks,os⟩ (topStub p)=some sg.abs:=by
  rw [←Zd]
  unfold Fc at h1
  split at h1
  ·rename_i sa ta' ea
   split at h1
   ·rename_i sb cb pb eb
    rw [Oj,Ol] at h1
    split at h1
    ·rename_i sf pf cs' ec
     split at h1
     ·rename_i sg' eg
      cases h1
      have hb:=segRun_of eb
      rw [hcs cb (Oo ec cb (.head _))] at hb
      have c1:=So ec hcs (Sn eg)
      rw [Sh] at c1
      have c2:=piece_block hb c1
      have c3:=Sl ea
      rw [h3] at c3
      have c4:=go_top c3 c2
      have hl:=Si 400 (behindTheImports p)
      have:=topRun_mono (1000000 - (12+(1+((cut 400 (behindTheImports p)).length*2000+2)))) _ _ _ _ c4
      rwa [show 12+(1+((cut 400 (behindTheImports p)).length*2000+2))+(1000000 - (12+(1+((cut 400 (behindTheImports p)).length*2000+2))))=1000000 by omega] at this
     ·cases h1
    ·cases h1
   ·cases h1
  ·cases h1
 have t:topFrom treeTable p w 1000000 ⟨boot_heap w.params,Array.mk [],boot_drawn,boot_toks,os⟩=some sg.abs:=by
  unfold topFrom
  dsimp only
  rw [z1,z2,z3,run]
  show (match staticsOk (importedModules p.main.body) (boot_heap w.params) sg.abs.heap&&namesBound p sg.abs.heap&&gensDone sg.abs&&laidKept (boot_heap w.params) sg.abs.heap with |true=>_ |false=>_)=_
  rw [l1]
 unfold openEnds
 rw [e0]
 show (topFrom treeTable p w 1000000 _).map _=_
 rw [t]
 exact congrArg some (Prod.ext l2 l3)
def Sq (h:Heap) (a:Addr):Option (Addr×Obj):=match h.get? a with
 |some o=>(match o.cls,a==mainNs||a==cStatics with
  |.none,false=>none
  |_,_=>some (a,o))
 |none=>none
def LQ (h:Heap):Frag:=(List.range h.objs.size).filterMap (Sq h)
theorem lookup_mem {a:Addr} {o:Obj}:∀{l:Frag},l.lookup a=some o→(a,o)∈l
 |[],h=>by cases h
 |(b,o')::l,h=>by
  rw [FR] at h
  split at h
  ·rename_i q
   cases h
   rw [beq_iff_eq.mp q]
   exact .head _
  ·exact .tail _ (lookup_mem h)
theorem Zg (h:Heap):(LQ h).In h:=fun a o e=>by
 obtain ⟨b,_,hb⟩:=List.mem_filterMap.mp (lookup_mem e)
 unfold Sq at hb
 split at hb
 ·rename_i o' e'
  split at hb
  ·cases hb
  ·cases hb;exact e'
 ·cases hb
def blank (fd:FuncData):FuncData:={fd with kwdefaults:=.none,doc:=.none,pyModule:=.none,annotations:=none,code:=.none,closureTuple:=.none}
def JY (K:Frag) (n:Str):Option (FuncData×Bool×Bool):=match nsIn K mainGlobals n with
 |some (some (.ref f))=>(match K.lookup f with
  |some ⟨_,_,.func fd,_⟩=>some (blank fd,codeIn K fd.code n,keepIn K (.ref f))
  |_=>none)
 |_=>none
abbrev LR (n:Str) (st:Stmt):FuncData:=fnOf n n (L2.defArgs st) (L2.defBody st) (L2.defScope st) .none .none .none .none none .none .none
inductive LU (K:Frag) (n:Str) (st:Stmt):Prop where
 |mk (f:Addr) (od an:Option Addr) (sl:Array (Option Value)) (oc kV dc pm cd ct:Value) (a:nsIn K mainGlobals n=some (some (.ref f)))
  (l:K.lookup f=some ⟨oc,od,.func (fnOf n n (L2.defArgs st) (L2.defBody st) (L2.defScope st) .none kV dc pm an cd ct),sl⟩) (c:codeIn K cd n=true) (k:keepIn K (.ref f)=true):LU K n st
theorem Zh {K:Frag} {n:Str} {st:Stmt} (e:JY K n=some (LR n st,true,true)):LU K n st:=by
 unfold JY at e
 split at e
 ·rename_i f hf
  split at e
  ·rename_i oc od fd sl hl
   obtain ⟨e1,e2⟩:=Prod.mk.inj (Option.some.inj e)
   obtain ⟨e3,e4⟩:=Prod.mk.inj e2
   obtain ⟨x1,x2,x3,x4,x5,x6,x7,x8,x9,x10,x11,x12,x13,x14,x15⟩:=fd
   replace e1:FuncData.mk x1 x2 x3 x4 x5 x6 x7 x8 .none .none .none none .none .none x15=LR n st:=e1
   injection e1 with y1 y2 y3 y4 y5 y6 y7 y8 y9 y10 y11 y12 y13 y14 y15
   subst x1 x2 x3 x4 x5 x6 x7 x8 x15
   exact ⟨f,od,x12,sl,oc,x9,x10,x11,x13,x14,hf,hl,e3,e4⟩
  ·cases e
 ·cases e
def JZ (K:Frag) (x:Str):Option Int:=match nsIn K mainGlobals x with
 |some (some (.int v _))=>some v
 |_=>none
theorem Zi {K:Frag} {x:Str} {v:Int} (e:JZ K x=some v):∃t,nsIn K mainGlobals x=some (some (.int v t)):=by
 unfold JZ at e
 split at e
 ·rename_i t h;cases e;exact ⟨t,h⟩
 ·cases e
def Oq (K:Frag) (h:Heap):Option (Option Obj×Bool×Bool):=match LS.tabP K with
 |some (c,T)=>some (h.get? T,codeHdIn K c T,(K.lookup T).isNone)
 |none=>none
structure Want where
 fs:List (Str×Stmt)
 cs:List (Str×Int)
 bs:List Str
abbrev LV:=List (Option (FuncData×Bool×Bool))×List (Option Int)×List (Option (Option Value))×Bool×Option (Option Obj×Bool×Bool)
noncomputable def obsK (W:Want) (s:Shared):LV:=fL (LQ s.heap) fun K=>
 (W.fs.map fun x=>JY K x.1,W.cs.map fun x=>JZ K x.1,W.bs.map (nsIn K mainGlobals),LS.etOk K,Oq K s.heap)
def valK (W:Want):LV:=(W.fs.map fun x=>some (LR x.1 x.2,true,true),W.cs.map fun x=>some x.2,W.bs.map fun _=>some none,true,some (some (tabObj #[]),true,true))
inductive Has (W:Want) (K:Frag) (c T:Addr):Prop where
 |mk (fs:∀(i:Nat) n st,W.fs[i]?=some (n,st)→LU K n st) (cs:∀(i:Nat) n v,W.cs[i]?=some (n,v)→∃t,nsIn K mainGlobals n=some (some (.int v t))) (bs:∀(i:Nat) n,W.bs[i]?=some n→nsIn K mainGlobals n=some none)
  (et:LS.etOk K=true) (tb:LS.tabP K=some (c,T)) (hd:codeHdIn K c T=true) (no:K.lookup T=none):Has W K c T
def Says (W:Want) (_:World) (h:Heap):Prop:=∃(K:Frag) (c T:Addr),K.In h∧Has W K c T∧h.get? T=some (tabObj #[])
theorem Says.keeps {W:Want} (w:World) (h h':Heap) (x:Says W w h) (k:∀b o,h.get? b=some o→h'.get? b=some o):Says W w h':=by
 obtain ⟨K,c,T,h1,h2,h3⟩:=x
 exact ⟨K,c,T,h1.keeps k,h2,k _ _ h3⟩
theorem Ot {α β:Type} {f g:α→β} {l:List α} (e:l.map f=l.map g) {i:Nat} {x:α} (h:l[i]?=some x):f x=g x:=by
 have:=congrArg (·[i]?) e
 simp only [Ck,h,FT,Option.some.injEq] at this
 exact this
theorem says_of {W:Want} (w:World) (s:Shared) (e:obsK W s=valK W):Says W w s.heap:=by
 unfold obsK valK at e
 rw [JX] at e
 obtain ⟨e1,e⟩:=Prod.mk.inj e
 obtain ⟨e2,e⟩:=Prod.mk.inj e
 obtain ⟨e3,e⟩:=Prod.mk.inj e
 obtain ⟨e4,e5⟩:=Prod.mk.inj e
 unfold Oq at e5
 split at e5
 ·rename_i c T hT
  obtain ⟨a1,a2⟩:=Prod.mk.inj (Option.some.inj e5)
  obtain ⟨a2,a3⟩:=Prod.mk.inj a2
  exact ⟨_,c,T,Zg _,⟨fun i n st h=>Zh (Ot e1 h),fun i n v h=>Zi (Ot e2 h),fun i n h=>Ot e3 h,e4,hT,a2,Option.isNone_iff_eq_none.mp a3⟩,a1⟩
 ·cases e5
theorem tab_cd {K:Frag} {c T f:Addr} {oc kV dc pm cd ct:Value} {od an:Option Addr} {sl:Array (Option Value)} {st:Stmt} (h:LS.tabP K=some (c,T)) (a:nsIn K mainGlobals "law"=some (some (.ref f)))
 (l:K.lookup f=some ⟨oc,od,.func (fnOf "law" "law" (L2.defArgs st) (L2.defBody st) (L2.defScope st) .none kV dc pm an cd ct),sl⟩):cd=.ref c:=by
 unfold LS.tabP at h
 rw [a] at h
 dsimp only at h
 rw [l] at h
 dsimp only at h
 split at h
 ·split at h
  ·split at h
   ·cases h;rfl
   ·cases h
  ·cases h
 ·cases h
end Tp
namespace LS
open PySem PySem.W PySem.Spec PySem.Calls PyProof.Rows L2
theorem walk_hd {l:OpenLaw} {n k:Nat} {q:Program} {loose:List Str} {XP:(Str→Option Value)→Heap→Prop} {W:Tp.Want} {d:DefRec} {x:Str} {F:List D→HD→Out D}
 (hn:l.most=some n) (hn2:n≤sizeLine) (hdf:d.params.defaults=[]) (hr:Room k callerA)
 (Fn:∀(w:World) (K:Frag) (c T:Addr) (mg:Str→Option Value) (fa:Addr) (h:Heap),Tp.Has W K c T→K.In h→h.Ns mainGlobals mg→mg d.name=some (.ref fa)→
  ∃fd:FuncData,(∀(s:Shared) (u:Value),BindsTo s fd ⟨[u],[]⟩ [(x,u)])∧
   ∀base:Heap,K.In base→base.Ns mainGlobals mg→IK mg base→FnOk l.prog w K mg base (As l.prog w K) k fa fd [x] (E4 K F))
 (hF:∀ns:List Int,ns.length≤n→(∀i∈ns,Builtin.Int.intBits i≤2^20)→∃h',F [.scr ns] [.tab]=.ok (.bl true) h'):
 WalkO q loose XP (Tp.Says W) l.row.toRowW d [] (fun f vs=>PySem.call f vs):=by
 refine Att.attach_bits hn hdf fun w s₀ s₁ mg mb fa o pm cd doc a vs ns hbits G Y ho hd hcd' hmg hobj hints hlen hg=>?_
 obtain ⟨K,c,T,KX,HS,hT⟩:=Y
 obtain ⟨fd,hb,hF'⟩:=Fn w K c T mg fa _ HS KX G.T.g hmg
 obtain ⟨bm,ob,b1,b2,b3,b4,b5,b6⟩:=G.T.bmain
 obtain ⟨_,_,_,_,h1,h2,h3⟩:=HS
 exact Yr KX G.T.g G.T.b G.T.builtins G.T.nolimit hg ⟨bm,ob,b1,b2,b3,b4,b5,b6⟩ hobj hints (Ca hlen hn2) hr h1 h2 hT h3 hF' hb (hF ns hlen hbits)
end LS
namespace Tp
open PySem PySem.W PySem.Spec PySem.Calls PyProof.Rows
def Zj (K:Frag):Option (FuncData×List Bool):=match nsIn K mainGlobals "TooMany",nsIn K mainGlobals "SwitchError" with
 |some (some (.ref C)),some (some (.ref S))=>(match K.lookup C with
  |some o=>(match LS.clsOf o.data with
   |some cd=>(match nsIn K cd.ns "__init__" with
    |some (some (.ref f))=>(match K.lookup f with
     |some ⟨oc,_,.func fd,_⟩=>some (blank fd,[codeIn K fd.code "TooMany.__init__",LS.tmX K C f,LS.swX K S,keepIn K (.ref C),oc==.type "function"])
     |_=>none)
    |_=>none)
   |none=>none)
  |none=>none)
 |_,_=>none
abbrev Zk (st:Stmt):FuncData:=fnOf "__init__" "TooMany.__init__" (L2.defArgs st) (L2.defBody st) (L2.defScope st) .none .none .none .none none .none .none
inductive Sr (K:Frag) (st:Stmt):Prop where
 |mk (C S f:Addr) (od an:Option Addr) (sl:Array (Option Value)) (kV dc pm cd ct:Value) (nC:nsIn K mainGlobals "TooMany"=some (some (.ref C))) (nS:nsIn K mainGlobals "SwitchError"=some (some (.ref S)))
  (l:K.lookup f=some ⟨.type "function",od,.func (fnOf "__init__" "TooMany.__init__" (L2.defArgs st) (L2.defBody st) (L2.defScope st) .none kV dc pm an cd ct),sl⟩) (c:codeIn K cd "TooMany.__init__"=true) (tm:LS.tmX K C f=true) (sw:LS.swX K S=true) (kp:keepIn K (.ref C)=true):Sr K st
noncomputable def ZfD (W:Want) (s:Shared):LV×Option (FuncData×List Bool):=fL (LQ s.heap) fun K=>
 ((W.fs.map fun x=>JY K x.1,W.cs.map fun x=>JZ K x.1,W.bs.map (nsIn K mainGlobals),LS.etOk K,Oq K s.heap),Zj K)
def ZfE (W:Want) (st:Stmt):LV×Option (FuncData×List Bool):=(valK W,some (Zk st,[true,true,true,true,true]))
def SaysT (W:Want) (st:Stmt) (_:World) (h:Heap):Prop:=∃(K:Frag) (c T:Addr),K.In h∧(Has W K c T∧Sr K st)∧h.get? T=some (tabObj #[])
theorem SaysT.keeps {W:Want} {st:Stmt} (w:World) (h h':Heap) (x:SaysT W st w h) (k:∀b o,h.get? b=some o→h'.get? b=some o):SaysT W st w h':=by
 obtain ⟨K,c,T,h1,h2,h3⟩:=x
 exact ⟨K,c,T,h1.keeps k,h2,k _ _ h3⟩
end Tp
namespace LS
open PySem PySem.W PySem.Spec PySem.Calls PyProof.Rows L2
structure TmK (P:Program) (w:World) (K:Frag) (mg:Str→Option Value) (base:Heap) (C f:Addr) (fd:FuncData) (oI:Obj):Prop where
 tm:tmX K C f=true
 F:FnOk P w K mg base (As P w K) 1 f fd ["self","many","most"] (Sb K C)
 hb:Binds K fd ["self","many","most"] []
 lI:K.lookup f=some oI
 cI:oI.cls=.type "function"
 kp:keepIn K (.ref C)=true
 nC:nsIn K mainGlobals "TooMany"=some (some (.ref C))
end LS
namespace LS
open PySem PySem.Spec PyProof.Rows L2
open Classical in
noncomputable def ZfF:D→HD→Out D
 |.int i,h=>if i.natAbs<4611686018427387904 then .ok (.str (toString i)) h else .stuck
 |_,_=>.stuck
section
variable {X:Cx}
def ZfG (i j k:Nat) (ta:TA):TS:=fun Dn σ H=>ta σ H fun vs H1=>∃u v w,vs=[u,v,w]∧Dn.nx (((σ.set i (some u)).set j (some v)).set k (some w)) H1
def Ou (i j k:Nat) (ρ:Aj):List D→HD→Out (Fl×Aj)
 |[u,v,w],h=>.ok (.nx,((ρ.set i (some u)).set j (some v)).set k (some w)) h
 |_,_=>.stuck
noncomputable def Ss (i j k:Nat) (fa:MA):MS:=fun ρ h=>(fa ρ h).bind fun ds h1=>Ou i j k ρ ds h1
end
@[simp] theorem ZfH {i j k:Nat} {fa:MA} {ρ:Aj} {h:HD} {Q:Fl×Aj→HD→Prop}:Wp (Ss i j k fa ρ h) Q=Wp (fa ρ h) fun ds h1=>Wp (Ou i j k ρ ds h1) Q:=by unfold Ss;rw [AG]
@[simp] theorem ZfI {i j k:Nat} {ρ:Aj} {u v w:D} {h:HD} {Q:Fl×Aj→HD→Prop}:Wp (Ou i j k ρ [u,v,w] h) Q=Q (.nx,((ρ.set i (some u)).set j (some v)).set k (some w)) h:=rfl
section
variable {X:Cx}
abbrev Ov:=F4 fun i j=>.int (Builtin.bitXor i j)
theorem Zl:Bz X (binaryOp .BitXor) Ov:=Jo Ve fun _ _ _ _=>by simp [DV]
end
section
variable {X:Cx} {E:XK} {D:Addr} {elt tg iter:Expr} {ifs:List Expr} {gs gens:List Comprehension} {scope:Scope} {pos:Pos} {Nc:List Str} {cs:List (Option Nat)} {it:MI} {gg:TG} {sg:MG} {t:MT} {f:ME} {e:Ea} {d:Nat} {is js:List Nat}
end
theorem Zm {X:Cx} {E:XK} {k k':Nat} {F:List D→HD→Out D} {x:Str} {p pos:Pos} (C:CaE X.prog X.w X.K X.mg X.base x k F) (hr:Room k' X.A) (hx:EU (As X.prog X.w X.K) X E) (hk:k≤k':=by decide) (hg:Gl X x:=by rfl)
 (hdb:(x==("__debug__":Str))=false:=by decide):Ev X E (.Call (.Name x p) [] [] pos) (Ag F Ad):=by
 obtain ⟨f,fd,ps,G,hb,hm,hkp⟩:=C.ex
 refine BW (VE (E:=E) G (hr.mono hk) hg hm hkp hb .nil hx hdb) fun σ H Q z3_=>?_
 obtain ⟨m,ρ,hd,hr,er,p⟩:=z3_
 exact ⟨m,[],hd,hr,.nil,p⟩
def Zn:List Expr→Option (List (Int×Int))
 |[]=>some []
 |.Tuple [.Constant (.int a) _ _,.Constant (.int b) _ _] _ _::es=>(Zn es).map ((a,b)::·)
 |_=>none
noncomputable def LW:List (Int×Int)→MA
 |[]=>Ad
 |p::ps=>Aa (AW (Aa (mC (.int p.1)) (Aa (mC (.int p.2)) Ad))) (LW ps)
@[simp] theorem ZfJ:LW []=Ad:=rfl
@[simp] theorem ZfK {p:Int×Int} {ps:List (Int×Int)}:LW (p::ps)=Aa (AW (Aa (mC (.int p.1)) (Aa (mC (.int p.2)) Ad))) (LW ps):=rfl
section
variable {X:Cx} {E:XK}
@[irreducible] def ExI (X:Cx) (E:XK) (st:Stmt) (g:MS):Prop:=Ex X E st g
@[irreducible] def ZfL (X:Cx) (E:XK) (sts:List Stmt) (g:MS):Prop:=AU X E sts g
end
end LS
namespace LS
open PySem PySem.Spec PySem.W PyProof.Rows L2
theorem Zo {K:Frag} {h:Heap} {mg:Str→Option Value} {x:Str} {st:Stmt} {f:Addr} {oc:Value} {od an:Option Addr} {osl:Array (Option Value)} {kV doc pm cdv ct:Value} (X:K.In h) (G:h.Ns mainGlobals mg) (l:K.lookup f=some ⟨oc,od,.func (fnOf x x (defArgs st) (defBody st) (defScope st) .none kV doc pm an cdv ct),osl⟩) (c:codeIn K cdv x=true) (k:keepIn K (.ref f)=true) (a:nsIn K mainGlobals x=some (some (.ref f)))
 (b:∀(kV doc pm:Value) (an:Option Addr) (cdv ct:Value),bindArgs (fnOf x x (defArgs st) (defBody st) (defScope st) .none kV doc pm an cdv ct) ⟨[],[]⟩=pure (([]:List Str).zip [])):Dn K mg x [] st f (fnOf x x (defArgs st) (defBody st) (defScope st) .none kV doc pm an cdv ct):=
 ⟨FX l c k,(FX l c k).binds (fun kV doc pm an cdv ct us hl=>by obtain rfl:=qbI.mp hl;exact b kV doc pm an cdv ct),mg_of X G a⟩
end LS
namespace LS
open PySem PySem.Spec PyProof.Rows L2 PySem.W
end LS
namespace Tp
open PySem PySem.W PySem.Spec PySem.Calls PyProof.Rows
abbrev Su:=List (Option (FuncData×Bool×Bool))×List (Option Int)×List (Option (Option Value))×Bool
noncomputable def ZfM (W:Want) (s:Shared):Su:=fL (LQ s.heap) fun K=>
 (W.fs.map fun x=>JY K x.1,W.cs.map fun x=>JZ K x.1,W.bs.map (nsIn K mainGlobals),true)
def ZfN (W:Want):Su:=(W.fs.map fun x=>some (LR x.1 x.2,true,true),W.cs.map fun x=>some x.2,W.bs.map fun _=>some none,true)
inductive Sv (W:Want) (K:Frag):Prop where
 |mk (fs:∀(i:Nat) n st,W.fs[i]?=some (n,st)→LU K n st) (cs:∀(i:Nat) n v,W.cs[i]?=some (n,v)→∃t,nsIn K mainGlobals n=some (some (.int v t))) (bs:∀(i:Nat) n,W.bs[i]?=some n→nsIn K mainGlobals n=some none)
  (et:True):Sv W K
def Says0 (W:Want) (_:World) (h:Heap):Prop:=∃K:Frag,K.In h∧Sv W K
theorem Says0.keeps {W:Want} (w:World) (h h':Heap) (x:Says0 W w h) (k:∀b o,h.get? b=some o→h'.get? b=some o):Says0 W w h':=by
 obtain ⟨K,h1,h2⟩:=x
 exact ⟨K,h1.keeps k,h2⟩
end Tp
namespace LS
open PySem PySem.W PySem.Spec PySem.Calls PyProof.Rows L2
end LS
namespace LS
open PySem PySem.Spec PyProof.Rows L2
def Zp:D→HD→Out D:=fun x h=>match x with
 |.loc l=>(match h[l]? with
  |some (.lst ds)=>B6 ds.reverse h
  |_=>.stuck)
 |_=>.stuck
def ZfO (f:ME):ME:=fun ρ h=>(f ρ h).bind Zp
section
variable {X:Cx} {E:XK} {e:Expr} {f:ME}
end
def IR:D→D→HD→Out D:=fun x y h=>match x with
 |.exc _ _=>.stuck
 |.edic=>.stuck
 |_=>AO x y h
section
variable {h:HD} {y:D} {i:Int} {b:Bool} {x:Str} {ds:List D} {l:Nat}
@[simp] theorem ZfP:IR (.int i) y h=AO (.int i) y h:=rfl
@[simp] theorem ZfQ:IR (.bl b) y h=AO (.bl b) y h:=rfl
@[simp] theorem ZfR:IR .non y h=AO .non y h:=rfl
@[simp] theorem ZfS:IR (.str x) y h=AO (.str x) y h:=rfl
@[simp] theorem ZfT:IR (.tup ds) y h=AO (.tup ds) y h:=rfl
@[simp] theorem ZfU:IR (.loc l) y h=AO (.loc l) y h:=rfl
end
end LS
namespace SetX
open PySem PyProof.Rows PySem.Spec
def B0 (led:Bool) (l:List Nat):SetTable:=
 {mask:=if l.length<5 then 7 else 31,place:=l.toArray,dummies:=#[],finger:=0,led:=led,moves:=if l.length<5 then 0 else 1,plain:=true}
def Cr (led:Bool) (l:List Nat):SetTable:=
 {mask:=if l.length<6 then 7 else 31,place:=l.toArray,dummies:=#[],finger:=0,led:=led,moves:=if l.length<6 then 0 else 1,plain:=true}
def Gi:Nat→Nat→List (List Nat)
 |0,_=>[[]]
 |k+1,a=>(Gi k (a+1)).map (a::·)++Gi k (a+1)
theorem J0:∀(k a:Nat) (l:List Nat),l.Pairwise (·< ·)→(∀x∈l,a≤x∧x<a+k)→l∈Gi k a
 |0,a,[],_,_=>by simp [Gi]
 |0,a,x::l,_,h=>by have:=h x (.head _);omega
 |k+1,a,[],_,_=>by
  simp only [Gi,qaW];right
  exact J0 k (a+1) [] .nil (fun _ h=>nomatch h)
 |k+1,a,x::l,p,h=>by
  rw [qc6] at p
  simp only [Gi,qaW,qaT]
  have hx:=h x (.head _)
  by_cases e:x=a
  ·left
   refine ⟨l,J0 k (a+1) l p.2 fun y hy=>?_,by rw [e]⟩
   have:=p.1 y hy;have:=h y (.tail _ hy);omega
  ·right
   refine J0 k (a+1) (x::l) (qc6.mpr p) fun y hy=>?_
   have h2:=h y hy
   rcases qa4.mp hy with rfl |hy
   ·omega
   ·have:=p.1 y hy;omega
def LY (led:Bool) (m:List Nat):Bool:=
 match m.getLast? with
 |none=>true
 |some n=>
  let l:=m.dropLast
  ((B0 led l).freeSlot (n:Int)==some (n,false))&&((B0 led l).put n==(Cr led m,l.length))&&((Cr led m).fits m.length)
    &&((Cr led m).tooFull==(m.length==5))
    &&(m.length != 5||((Cr led m).relaid (m.map (fun (x:Nat)=>(x:Int))).toArray (SetTable.grown 5)==some (B0 led m,#[0,1,2,3,4])))
theorem Zq:(Gi 8 0).all (fun m=>LY true m&&LY false m)=true:=by decide +kernel
def Dg (l:List Nat) (vs:List Value):List (Int×Value):=(l.map (fun (x:Nat)=>(x:Int))).zip vs
def IS (es:Array (Int×Value)) (ep:Nat) (t:SetTable):Obj:={cls:=.type "set",dict:=none,data:=.set es ep t}
inductive SetAt (h:Heap) (a:Addr) (led:Bool) (l:List Nat) (vs:List Value):Prop
 |mk (es:Array (Int×Value)) (ep:Nat) (g:h.get? a=some (IS es ep (B0 led l))) (e:es.toList=Dg l vs) (i:IntsAre vs (l.map (fun (x:Nat)=>(x:Int))))
theorem Sx:∀n,n<8→hashInt ((n:Nat):Int)=n:=by decide +kernel
theorem Ow {l:List Nat} {vs:List Value} (i:IntsAre vs (l.map (fun (x:Nat)=>(x:Int)))):(Dg l vs).length=l.length:=by
 have:=IntsAre.length i
 simp only [CA] at this
 simp [Dg,this]
theorem Zr {l:List Nat} {vs:List Value} {n:Nat} {v:Value} (i:IntsAre vs (l.map (fun (x:Nat)=>(x:Int)))):Dg l vs++[((n:Int),v)]=Dg (l++[n]) (vs++[v]):=by
 have:=IntsAre.length i
 simp only [CA] at this
 simp only [Dg,DT,Bu,Gu]
 rw [List.zip_append (by simp [this])]
 rfl
theorem Sy:∀{vs:List Value} {ns:List Int} {n:Int} {t:Tok},IntsAre vs ns→IntsAre (vs++[.int n t]) (ns++[n])
 |_,_,n,t,.nil=>.cons n t .nil
 |_,_,_,_,.cons n t hr=>.cons n t (Sy hr)
theorem LZ:∀{l:List Nat} {vs:List Value},IntsAre vs (l.map (fun (x:Nat)=>(x:Int)))→∀e∈Dg l vs,∃(n:Nat) (t:Tok),n∈l∧e=((n:Int),.int (n:Int) t)
 |[],_,_,e,h=>by simp [Dg] at h
 |n::l,vs,i,e,h=>by
  simp only [Bu] at i
  cases i with
  |cons _ t hr=>
   simp only [Dg,Bu,List.zip_cons_cons,qa4] at h
   rcases h with rfl |h
   ·exact ⟨n,t,.head _,rfl⟩
   ·obtain ⟨m,u,hm,rfl⟩:=LZ hr e h
    exact ⟨m,u,.tail _ hm,rfl⟩
section
variable {prog:Program} {w:World} {A:Around} {E:Value→Shared→Prop} {s:Shared}
theorem Zs {l:List Nat} {vs:List Value} (i:IntsAre vs (l.map (fun (x:Nat)=>(x:Int)))) (h8:∀x∈l,x<8):ElemsOf (intKind prog w) (Dg l vs):=by
 intro e he
 obtain ⟨n,t,hn,rfl⟩:=LZ i e he
 exact ⟨⟨n,intKind_is _ _ _ _,(Sx n (h8 n hn)).symm⟩,rfl⟩
theorem Zt (led:Bool) {l:List Nat} {n:Nat} (hp:(l++[n]).Pairwise (·< ·)) (h8:∀x∈l++[n],x<8):
 (B0 led l).freeSlot (n:Int)=some (n,false)∧(B0 led l).put n=(Cr led (l++[n]),l.length)∧(Cr led (l++[n])).fits (l++[n]).length=true
  ∧(Cr led (l++[n])).tooFull=((l++[n]).length==5)
  ∧((l++[n]).length=5→(Cr led (l++[n])).relaid ((l++[n]).map (fun (x:Nat)=>(x:Int))).toArray (SetTable.grown 5)=some (B0 led (l++[n]),#[0,1,2,3,4])):=by
 have h:=qaL.mp Zq _ (J0 8 0 _ hp fun x hx=>⟨DE _,by have:=h8 x hx;omega⟩)
 rw [CP] at h
 have hc:LY led (l++[n])=true:=by
  cases led
  ·exact h.2
  ·exact h.1
 unfold LY at hc
 rw [List.getLast?_concat] at hc
 simp only [List.dropLast_concat,CP,beq_iff_eq,Bool.or_eq_true,bne_iff_ne] at hc
 obtain ⟨⟨⟨⟨a,b⟩,c⟩,d⟩,e⟩:=hc
 exact ⟨a,b,c,d,fun h=>e.resolve_left fun k=>k h⟩
theorem Zu {α:Type} (xs:Array α) (x:α):SetTable.insertAt xs xs.size x=xs.push x:=by
 unfold SetTable.insertAt
 simp
theorem Ox (led:Bool) {l:List Nat} (hl:l.length≤8):(B0 led l).fits l.length=true:=by
 unfold SetTable.fits SetTable.fill B0
 simp only [A9,beq_self_eq_true,Bool.true_and,decide_eq_true_eq]
 simp;split<;>omega
theorem Zv {t t':SetTable} {es:Array (Int×Value)} {k:Nat} (h:t.relaid (es.map (·.1)) k=some (t',#[0,1,2,3,4])) (h5:es.size=5) (hf:t'.fits 5=true):
 relayAll t es k=(es,t',false):=by
 unfold relayAll
 rw [h]
 try dsimp only
 have e:(#[0,1,2,3,4]:Array Nat).filterMap (es[·]?)=es:=by
  obtain ⟨l⟩:=es
  match l,h5 with
  |[a,b,c,d,e],_=>rfl
 rw [e,h5,hf]
 rfl
theorem Zw {a:Addr} {led:Bool} {l:List Nat} {vs:List Value} {n:Nat} {t:Tok} {Q:Bool→Shared→Prop} (hS:SetAt s.heap a led l vs)
 (hp:(l++[n]).Pairwise (·< ·)) (h8:∀x∈l++[n],x<8) (hle:(l++[n]).length≤8)
 (h:∀h',Heap.SameBut a s.heap h'→SetAt h' a led (l++[n]) (vs++[.int (n:Int) t])→Q true {s with heap:=h'}):
 wpAny (model prog w) A (setAddHashed a (.int (n:Int) t) (hashInt (n:Int))) Q E s:=by
 obtain ⟨es,ep,ho,he,hi⟩:=hS
 have hsz:es.size=l.length:=by rw [←Array.length_toList,he,Ow hi]
 have hll:l.length<8:=by simp only [FQ,HJ,Gs] at hle;omega
 have h8l:∀x∈l,x<8:=fun x hx=>h8 x (HC _ hx)
 have hel:ElemsOf (intKind prog w) es.toList:=by rw [he];exact Zs hi h8l
 have hf:(B0 led l).fits es.size=true:=by rw [hsz];exact Ox led (by omega)
 have hd:(IS es ep (B0 led l)).data=.set es ep (B0 led l):=rfl
 have hb:es.size<scanBound:=by unfold scanBound;omega
 have hn:hashInt (n:Int)=n:=Sx n (h8 n (by simp))
 unfold setAddHashed setAddHashedIn
 refine wpAny_holding (wpAny_bind (wpAny_setState_of ho hd hf ?_))
 try dsimp only
 rw [byScan_of (knd:=intKind prog w) rfl hb hel]
 simp only [↓reduceIte]
 unfold setAddByScan
 refine wpAny_bind ?_
 refine wpAny_bind (wpAny_rule ?_)
 refine wpAny_bind (wpAny_setScan_of (knd:=intKind prog w) (intKind_is _ _ _ _) ho hd hf hel ?_)
 have hr:List.findIdx? (fun e:Int×Value=>(intKind prog w).is (n:Int) e.2) es.toList=none:=by
  rw [List.findIdx?_eq_none_iff]
  intro e hm
  rw [he] at hm
  obtain ⟨m,u,hm',rfl⟩:=LZ hi e hm
  have:m<n:=(List.pairwise_append.mp hp).2.2 m hm' n (by simp)
  simp only [intKind,Value.isInt,beq_eq_false_iff_ne,ne_eq]
  omega
 rw [hr]
 try dsimp only
 obtain ⟨c1,c2,c3,c4,c5⟩:=Zt led hp h8
 have hL:layNew (B0 led l) es (hashInt (n:Int)) (.int (n:Int) t)=(es.push ((n:Int),.int (n:Int) t),Cr led (l++[n]),false,false):=by
  unfold layNew
  rw [hn,c1]
  try dsimp only
  rw [c2]
  try dsimp only
  rw [←hsz,Zu]
  have:(es.push ((n:Int),Value.int (n:Int) t)).size=(l++[n]).length:=by simp [hsz]
  rw [this]
  unfold SetTable.orStandIn
  rw [c3]
  rfl
 rw [hL]
 try dsimp only
 refine wpAny_bind (wpAny_pure ?_)
 have hel':(es.push ((n:Int),Value.int (n:Int) t)).toList=Dg (l++[n]) (vs++[.int (n:Int) t]):=by
  rw [Array.toList_push,he,Zr hi]
 have hi':IntsAre (vs++[.int (n:Int) t]) ((l++[n]).map (fun (x:Nat)=>(x:Int))):=by
  rw [DT];exact Sy hi
 have hz':(es.push ((n:Int),Value.int (n:Int) t)).size=(l++[n]).length:=by simp [hsz]
 generalize es.push ((n:Int),Value.int (n:Int) t)=es1 at hel' hz' ⊢
 have hpl:(Cr led (l++[n])).plain=true:=rfl
 rw [hpl]
 simp only [↓reduceIte]
 refine wpAny_bind ?_
 rw [hashByValue_scannable 8 (show (Value.int (n:Int) t).scannable=true from rfl)]
 refine wpAny_pure ?_
 simp only [plainKind,↓reduceIte]
 have hsl:es1.size≤sizeLine:=by rw [hz',sizeLine_eq];omega
 refine wpAny_bind (wpAny_storeSet_of ho hd ?_ hsl)
 have hg1:(s.heap.update a (Obj.putSet es1 (Cr led (l++[n])))).get? a=some (IS es1 (ep+1) (Cr led (l++[n]))):=by
  have:=Fp (Obj.putSet es1 (Cr led (l++[n]))) ho (by rw [putSet_of _ _ hd];rfl)
  rw [putSet_of _ _ hd] at this;exact this
 have hsb1:=Heap.SameBut.update s.heap a (Obj.putSet es1 (Cr led (l++[n])))
 rw [c4]
 by_cases h5:(l++[n]).length=5
 ·rw [h5]
  simp only [Bool.not_false,beq_self_eq_true,Bool.and_self,↓reduceIte]
  have hm:es1.map (·.1)=((l++[n]).map (fun (x:Nat)=>(x:Int))).toArray:=by
   apply Array.toList_inj.mp
   rw [Array.toList_map,hel']
   have:=IntsAre.length hi'
   simp only [Dg]
   rw [List.map_fst_zip (by rw [this];exact AF _)]
  have h51:es1.size=5:=by rw [hz',h5]
  have hra:relayAll (Cr led (l++[n])) es1 (SetTable.grown es1.size)=(es1,B0 led (l++[n]),false):=by
   rw [h51]
   exact Zv (by rw [hm];exact c5 h5) h51 (by rw [←h5];exact Ox led hle)
  rw [hra]
  try dsimp only
  refine wpAny_bind (wpAny_pure ?_)
  refine wpAny_bind (wpAny_storeSet_of hg1 rfl ?_ hsl)
  have hd1:(IS es1 (ep+1) (Cr led (l++[n]))).data=.set es1 (ep+1) (Cr led (l++[n])):=rfl
  have hg2:=Fp (Obj.putSet es1 (B0 led (l++[n]))) hg1 (by rw [putSet_of _ _ hd1];rfl)
  rw [putSet_of _ _ hd1] at hg2
  exact wpAny_pure (wpAny_pure (h _ (hsb1.trans (Heap.SameBut.update _ a _)) ⟨es1,_,hg2,hel',hi'⟩))
 ·have hne:((l++[n]).length==5)=false:=by simpa using h5
  rw [hne]
  simp only [Bool.not_false,Bool.and_false,B2,↓reduceIte]
  have hT:Cr led (l++[n])=B0 led (l++[n]):=by
   unfold Cr B0
   have:((l++[n]).length<6)↔((l++[n]).length<5):=by omega
   simp only [this]
  rw [hT] at hg1 hsb1 ⊢
  exact wpAny_pure (wpAny_pure (h _ hsb1 ⟨es1,_,hg1,hel',hi'⟩))
end
theorem SetAt.at {h h':Heap} {a:Addr} {led:Bool} {l:List Nat} {vs:List Value} (x:SetAt h a led l vs) (e:∀o,h.get? a=some o→h'.get? a=some o):SetAt h' a led l vs:=by
 obtain ⟨es,ep,g,p,i⟩:=x
 exact ⟨es,ep,e _ g,p,i⟩
theorem Zx {vs:List Value} {l:List Nat} (hi:IntsAre vs (l.map (fun (x:Nat)=>(x:Int)))) {i:Nat} {v:Value} (h:vs[i]?=some v):∃n t,l[i]?=some n∧v=.int ((n:Nat):Int) t:=by
 obtain ⟨t,rfl⟩:=IntsAre.int_at hi i v h
 have hl:=IntsAre.length hi
 simp only [CA] at hl
 have hlt:i<l.length:=by
  have:=qa2.mp h
  obtain ⟨q,_⟩:=this;omega
 refine ⟨l[i],t,by simp [hlt],?_⟩
 congr 1
 simp [List.getD,hlt]
section
variable {prog:Program} {w:World} {A:Around} {R:Result→Shared→Prop} {I:Addr} {fp wr:List Addr} {G:Array GenState→Array GenState→Prop} {n:Nat} {P:Nat→Value→Prop} {St:Nat→Shared→Prop}
theorem loop_at (W:WalksS prog w A.in1 I fp wr G n P St) (S:Addr) (hSf:S∉fp) (led:Bool) {l:List Nat} {vs:List Value} (hi:IntsAre vs (l.map (fun (x:Nat)=>(x:Int)))) (hn:l.length=n)
 (hval:∀i v,P i v→vs[i]?=some v) (hp:l.Pairwise (·< ·)) (h8:∀x∈l,x<8) (hle:l.length≤8):
 ∀(k i:Nat) (s:Shared),n - i=k→i≤n→St i s→SetAt s.heap S led (l.take i) (vs.take i)→
  (∀s',Moved (S::wr) G s s'→SetAt s'.heap S led l vs→R (.ok (.ret .none)) s')→
  codeAny (model prog w) A (.builtin "set.update.loop" ⟨[.ref S,.ref I],[]⟩) R s:=by
 have hSw:S∉wr:=fun h=>hSf (W.sub _ h)
 have hsub:∀b∈wr,b∈S::wr:=fun b hb=>Bf _ hb
 have hvl:vs.length=l.length:=by have:=IntsAre.length hi;simpa using this
 intro k
 induction k with
 |zero=>
  intro i s hk hi' hst hS hR
  have hin:i=n:=by omega
  subst hin
  refine codeAny_builtin F.entry_set_update_loop ?_
  rw [Around.under_plainId F.plain_set_update_loop _]
  show wpAny _ A.in1 (pyNext (.ref I) >>=_) _ _ s
  refine wpAny_bind (W.done s _ _ hst fun s' hm=>?_)
  show wpAny _ A.in1 (ret Value.none) _ _ s'
  rw [←hn,Km,←hvl,Km] at hS
  exact wpAny_pure (hR s' (hm.mono hsub) (hS.at fun o e=>hm.heap S _ hSw e))
 |succ k ih=>
  intro i s hk hi' hst hS hR
  have hlt:i<n:=by omega
  refine codeAny_builtin F.entry_set_update_loop ?_
  rw [Around.under_plainId F.plain_set_update_loop _]
  show wpAny _ A.in1 (pyNext (.ref I) >>=_) _ _ s
  refine wpAny_bind (W.item i s _ _ hlt hst fun v s' hP hst' hm=>?_)
  have hvi:=hval i v hP
  obtain ⟨m,t,hm',rfl⟩:=Zx hi hvi
  have hS':=hS.at (h':=s'.heap) fun o e=>hm.heap S _ hSw e
  show wpAny _ A.in1 (holding [Value.int (m:Int) t] (setAdd S (.int (m:Int) t)) >>=_) _ _ s'
  refine wpAny_bind (wpAny_holding ?_)
  unfold setAdd
  refine wpAny_holding ?_
  refine wpAny_bind ((intKind prog w).pyHash (k:=(m:Int)) (intKind_is _ _ _ _) ?_)
  have el:l.take i++[m]=l.take (i+1):=by rw [List.take_succ,hm'];rfl
  have ev:vs.take i++[Value.int (m:Int) t]=vs.take (i+1):=by rw [List.take_succ,hvi];rfl
  refine Zw (s:={s' with toks:=s'.toks+1}) hS' ?_ ?_ ?_ fun h' hsb hS2=>?_
  ·rw [el];exact hp.sublist (List.take_sublist _ _)
  ·rw [el];exact fun x hx=>h8 x (Ki hx)
  ·rw [el,I0];omega
  rw [el,ev] at hS2
  refine wpAny_pure ⟨plainId_quiet F.plain_set_update_loop _,ih (i+1) _ (by omega) hlt (W.frame _ s' _ _ hst' (Gv _) fun b hb o e=>?_) hS2 fun s'' hm'' hS''=>?_⟩
  ·rw [hsb.2 b (fun h:b=S=>hSf (by rw [←h];exact hb))];exact e
  ·refine hR s'' (Moved.trans W.gtrans ((hm.mono hsub).then_heap (Gv _) fun b o hb e=>?_) hm'') hS''
   rw [hsb.2 b (fun h:b=S=>hb (by rw [h];exact A8))];exact e
end
section
variable {prog:Program} {w:World} {A:Around} {E:Value→Shared→Prop} {s:Shared}
def ledW (w:World):Bool:=!w.params.followText "set-order"
def Fd (w:World):Obj:={cls:=.type "set",dict:=none,data:=.set #[] 0 (.fresh 0 0 (ledW w))}
theorem Zy (a:Value) {Q₁:Value→Shared→Prop} (h:Q₁ (.ref s.heap.objs.size) {s with heap:=s.heap.push (Fd w)}):
 codeAny (model prog w) A (.call (.builtin "set.__new__") ⟨[.type "set",a],[]⟩) (wants Q₁ E) s:=by
 refine codeAny_of_tree ?_
 show wpAny _ A.in1 (do checkBuiltinCall "set.__new__" ⟨[.type "set",a],[]⟩;again (.builtin "set.__new__" ⟨[.type "set",a],[]⟩)) _ _ s
 refine wpAny_bind (wpAny_of_eq (F.newCall_set_1 a) (wpAny_pure ⟨plainId_quiet F.plain_set_new _,codeAny_builtin F.entry_set_new ?_⟩))
 rw [Around.under_plainId F.plain_set_new _]
 unfold Builtin.«set.__new__» Builtin.Frozenset.newClass
 have hsub:=sub_set_self
 obtain ⟨hp,g,d,tk,os⟩:=s
 dsimp only
 wp_walk
 refine wpAny_askSetting (wpAny_pure ?_)
 dsimp only
 simp only [newObj]
 refine wpAny_bind (wpAny_alloc (wpAny_pure ?_))
 exact wpAny_pure h
set_option maxHeartbeats 3200000 in
theorem set_tuple_at {l:Addr} {ns:List Nat} {vs:List Value} {Q:Value→Shared→Prop}
 (hh:A.handled=none) (hl:s.heap.IsTuple l vs.toArray) (hi:IntsAre vs (ns.map (fun (x:Nat)=>(x:Int)))) (hp:ns.Pairwise (·< ·)) (h8:∀x∈ns,x<8) (hle:ns.length≤8)
 (h:∀(h':Heap) (tk:Nat),SetAt h' s.heap.objs.size (ledW w) ns vs→
  (∀b o,b<s.heap.objs.size→s.heap.get? b=some o→h'.get? b=some o)→Q (.ref s.heap.objs.size) {s with heap:=h',toks:=tk}):
 wpAny (model prog w) A (call (.type "set") [.ref l]) Q E s:=by
 obtain ⟨c,tl,hmro⟩:=F.called_set.mro
 have hmade:=F.called_set.made
 have hsub:=F.called_set.sub
 refine wpAny_call (codeAny_of_tree ?_)
 show wpAny _ _ (callAny (.type "set") _) _ _ _
 refine wpAny_pure ⟨Code.quiet_builtin _ (by decide +kernel),codeAny_builtin F.entry_type_call ?_⟩
 rw [Around.under_plain (weight_type_call_type "set" [.ref l] []) rfl]
 have h1:=F.called_set.notType
 have h2:=F.called_set.canCreate
 have hct:=F.typeCall_set_1 (.ref l)
 repeat (any_goals (first |assumption |wp_step))
 refine codeAny_mono (Zy (.ref l) (E:=E) (Q₁:=fun obj s₁=>obj=.ref s.heap.objs.size∧s₁={s with heap:=s.heap.push (Fd w)}) ⟨rfl,rfl⟩) fun r s₁ hr=>?_
 cases r with
 |error e=>exact hr
 |ok fl=>
  cases fl with
  |ret obj=>
   obtain ⟨rfl,rfl⟩:=hr
   have hS:(s.heap.push (Fd w)).get? s.heap.objs.size=some (Fd w):=A7 _ rfl
   have hT:Shared.TypeIs {s with heap:=s.heap.push (Fd w)} (.ref s.heap.objs.size) "set":=⟨_,hS,rfl⟩
   have hli:=F.called_set.init.lookup
   have hbi:=F.called_set.init.bind (.ref s.heap.objs.size)
   repeat (any_goals (first |assumption |wp_step))
   refine codeAny_mono (codeAny_call_builtin (R:=wants (fun r s₂=>r=.none∧∃h' tk,s₂={s with heap:=h',toks:=tk}∧
    SetAt h' s.heap.objs.size (ledW w) ns vs∧
    (∀b o,b<s.heap.objs.size→s.heap.get? b=some o→h'.get? b=some o)) E) F.called_set.init.plain F.entry_set_init (check_set_init_1 hT ?_)) fun r₂ s₂ hr₂=>?_
   ·obtain ⟨ol,hol,hcl,nl,hdl⟩:=hl
    obtain ⟨ocls,odict,odata,oslots⟩:=ol
    simp only at hcl hdl
    subst hcl;subst hdl
    have hol':(s.heap.push (Fd w)).get? l=some {cls:=.type "tuple",dict:=odict,data:=.seq vs.toArray nl,slots:=oslots}:=AB _ hol
    have hsls:=F.sub_tuple_set
    have hslf:=F.sub_tuple_frozenset
    have hne:(Value.type "tuple"==Value.type "dict")=false:=by decide
    have hl1:(s.heap.push (Fd w)).IsTuple l vs.toArray:=⟨_,hol',rfl,nl,rfl⟩
    unfold Builtin.«set.__init__» noKeywords Builtin.Frozenset.updateFrom
    generalize hPI:pyIter=PI
    wp_walk
    subst hPI
    refine wpAny_pyIter_tuple hl1 ?_
    refine wpAny_bind (wpAny_runValue ?_)
    have hlS:l<s.heap.objs.size:=AE hol
    have hh3:A.in1.in1.in1.handled=none:=by simp [hh]
    have hneI:l≠(s.heap.push (Fd w)).objs.size:=by
     rw [B9];exact Bg (Fq hlS)
    have hSf:s.heap.objs.size∉[(s.heap.push (Fd w)).objs.size,l]:=by
     rw [B9];simp only [qa4,qaH,Cz,or_false,not_or]
     exact ⟨Bg (Kl _),BP hlS⟩
    have hvl:vs.length=ns.length:=by have:=IntsAre.length hi;simpa using this
    refine loop_at ((Walks.tuple hh3 _ l hneI vs.toArray).toS) s.heap.objs.size
     hSf (ledW w) hi (by simp [hvl]) (fun i v e=>by simpa using e) hp h8 hle (vs.toArray.size - 0) 0 _ (by omega) (DE _)
     ⟨⟨_,A7 _ rfl,rfl,rfl⟩,(hl1.push _)⟩ ?hS0 ?hR
    case hS0=>
     exact ⟨#[],0,AB _ hS,rfl,.nil⟩
    case hR=>
     intro s' hm hS'
     obtain ⟨h',g',d',tk',os'⟩:=s'
     have eg:g'=s.gens:=hm.gens
     have ed:d'=s.drawn:=hm.drawn
     have eo:os'=s.os:=hm.os
     subst eg;subst ed;subst eo
     show wpAny _ _ _ _ _ _
     refine wpAny_pure ?_
     show wpAny _ _ (ret Value.none) _ _ _
     refine wpAny_pure ⟨rfl,h',tk',rfl,hS',fun b o hb e=>?_⟩
     have hb1:b≠s.heap.objs.size:=Bg hb
     have hb2:b≠(s.heap.push (Fd w)).objs.size:=by
      rw [B9];exact Bg (Fq hb)
     exact hm.heap b o (by simp only [qa4,qaH,Cz,or_false,not_or];exact ⟨hb1,hb2⟩) (AB _ (AB _ e))
   ·cases r₂ with
    |error e=>exact hr₂
    |ok fl₂=>
     cases fl₂ with
     |ret r=>
      obtain ⟨rfl,h',tk,rfl,hS',hk'⟩:=hr₂
      repeat (any_goals (first |assumption |wp_step))
      exact h _ _ hS' hk'
     |_=>exact hr₂.elim
  |_=>exact hr.elim
end
theorem slot_next:Slot "set_iterator" "__next__" "set_iterator.__next__":=
 .of (owner:="set_iterator") (n:="__next__") (by rw [typeLookup_type,builtinLookup_eq_fast];kernel_rfl) (by decide +kernel) (by decide +kernel) (by decide +kernel)
  (by first |exact .inl (by decide +kernel) |exact .inr (by decide +kernel)) (by rw [isSubtype_type];kernel_rfl)
theorem Sz:entryFor table "set_iterator.__next__"=some Builtin.«set_iterator.__next__»:=entryFor_of_tree (by kernel_rfl)
theorem SA:Manifest.owners.lookup (String.ofList ['r','o','t','a','r','e','t','i','_','t','e','s'].reverse)=some Manifest.sig_set_iterator:=by kernel_rfl
theorem SB (a:Value):argsOk "set_iterator.__next__" ⟨[a],[]⟩:=by
 unfold argsOk;rw [signature?_of (id:="set_iterator.__next__") (n:=['_','_','t','x','e','n','_','_']) (o:=['r','o','t','a','r','e','t','i','_','t','e','s']) (by kernel_rfl) SA];kernel_rfl
theorem Zz:entryFor table "set.__iter__"=some Builtin.«frozenset.__iter__»:=
 entryFor_alias (id':="frozenset.__iter__") (by kernel_rfl) rfl (by decide +kernel) (by kernel_rfl)
def CI (w:World):Bool:=w.params.followText "set-order"
def Dt (w:World) (a:Addr) (ep:Nat) (es:Array (Int×Value)):Array (Int×Value):=if CI w=true then pickOrder (w.params.setOrder a ep) es else es
def CZ (b:Bool) (l:List Nat):Nat→Nat
 |0=>0
 |i+1=>if b=true then 0 else l.getD i 0+1
theorem SC {α:Type}:∀(l:List α) (i:Nat) (h:i<l.length),(l[i]::l.eraseIdx i).Perm l
 |[],i,h=>by simp at h
 |a::l,0,h=>by simp
 |a::l,i+1,h=>by
  simp only [List.getElem_cons_succ,List.eraseIdx_cons_succ]
  exact (List.Perm.swap _ _ _).trans ((SC l i (by simpa using h)).cons a)
theorem SD {α:Type} (next:Nat→Nat):∀(f k:Nat) (left:List α) (out:Array α),f=left.length→(pickOrder.go next f k left out).toList.Perm (out.toList++left)
 |0,k,left,out,h=>by
  have:left=[]:=qbI.mp h.symm
  subst this
  simp [pickOrder.go]
 |f+1,k,left,out,h=>by
  have hpos:0<left.length:=by omega
  have hlt:next k % left.length<left.length:=Nat.mod_lt _ hpos
  unfold pickOrder.go
  rw [Bb hlt]
  try dsimp only
  refine (SD next f (k+1) _ _ (by rw [List.length_eraseIdx_of_lt hlt];omega)).trans ?_
  rw [Array.toList_push,Kk]
  exact List.Perm.append_left _ (SC left _ hlt)
theorem L4 (w:World) (a:Addr) (ep:Nat) (es:Array (Int×Value)):(Dt w a ep es).toList.Perm es.toList:=by
 unfold Dt
 split
 ·unfold pickOrder
  have:=SD (w.params.setOrder a ep) es.size 0 es.toList #[] (by simp)
  simpa using this
 ·exact List.Perm.refl _
inductive SetE (h:Heap) (a:Addr) (led:Bool) (l:List Nat) (vs:List Value) (es:Array (Int×Value)) (ep:Nat):Prop
 |mk (g:h.get? a=some (IS es ep (B0 led l))) (e:es.toList=Dg l vs) (i:IntsAre vs (l.map (fun (x:Nat)=>(x:Int)))) (p:l.Pairwise (·< ·)) (b:∀x∈l,x<8) (n:l.length≤8)
theorem SetE.at {h h':Heap} {a:Addr} {led:Bool} {l:List Nat} {vs:List Value} {es:Array (Int×Value)} {ep:Nat} (x:SetE h a led l vs es ep) (e:∀o,h.get? a=some o→h'.get? a=some o):SetE h' a led l vs es ep:=by
 obtain ⟨g,q,i,p,b,n⟩:=x
 exact ⟨e _ g,q,i,p,b,n⟩
theorem SetE.sz {h:Heap} {a:Addr} {led:Bool} {l:List Nat} {vs:List Value} {es:Array (Int×Value)} {ep:Nat} (x:SetE h a led l vs es ep):es.size=l.length:=by
 obtain ⟨g,q,i,p,b,n⟩:=x
 rw [←Array.length_toList,q,Ow i]
theorem SetE.fits {h:Heap} {a:Addr} {led:Bool} {l:List Nat} {vs:List Value} {es:Array (Int×Value)} {ep:Nat} (x:SetE h a led l vs es ep):(B0 led l).fits es.size=true:=by
 rw [x.sz]
 obtain ⟨g,q,i,p,b,n⟩:=x
 exact Ox led n
theorem SetE.get {h:Heap} {a:Addr} {led:Bool} {l:List Nat} {vs:List Value} {es:Array (Int×Value)} {ep:Nat} (x:SetE h a led l vs es ep):h.get? a=some (IS es ep (B0 led l)):=by
 obtain ⟨g,q,i,p,b,n⟩:=x
 exact g
def SE (m:List Nat):Bool:=(List.range (m.length+1)).all fun i=>SetTable.below m.toArray (CZ false m i)==i
theorem ZA:(Gi 8 0).all SE=true:=by decide +kernel
theorem SetE.below {h:Heap} {a:Addr} {led:Bool} {l:List Nat} {vs:List Value} {es:Array (Int×Value)} {ep:Nat} (x:SetE h a led l vs es ep) {i:Nat} (hi:i≤l.length):SetTable.below l.toArray (CZ false l i)=i:=by
 obtain ⟨g,q,_,p,b,n⟩:=x
 have h:=qaL.mp ZA _ (J0 8 0 _ p fun x hx=>⟨DE _,by have:=b x hx;omega⟩)
 unfold SE at h
 have:=qaL.mp h i (qbM.mpr (by omega))
 simpa using this
def L5 (a:Addr) (sl i n ep:Nat):Obj:={cls:=.type "set_iterator",data:=.fields #[.int sl 0,.int i 0,.ref a,.int n 0,.int ep 0]}
def IsIt (h:Heap) (I a:Addr) (sl i n ep:Nat):Prop:=∃o,h.get? I=some o∧o.cls=.type "set_iterator"∧o.data=.fields #[.int sl 0,.int i 0,.ref a,.int n 0,.int ep 0]
section
variable {prog:Program} {w:World} {A:Around} {E:Value→Shared→Prop} {s:Shared}
theorem ZC {a:Addr} {led:Bool} {l:List Nat} {vs:List Value} {es:Array (Int×Value)} {ep:Nat} {Q:Value→Shared→Prop} (x:SetE s.heap a led l vs es ep)
 (h:Q (.ref s.heap.objs.size) {s with heap:=s.heap.push (L5 a 0 0 l.length ep)}):wpAny (model prog w) A (pyIter (.ref a)) Q E s:=by
 have hT:s.TypeIs (.ref a) "set":=⟨_,x.get,rfl⟩
 refine wpAny_pyIter_slot hT F.slot_set_iter (wpAny_call_entry F.slot_set_iter hT Zz ?_ (F.args_set_iter_1 _))
 unfold Builtin.«frozenset.__iter__» Builtin.Frozenset.slot0 slotArgs
 simp only [List.isEmpty_nil,Bool.not_true,B2,↓reduceIte,bind_assoc,Gs,bne_self_eq_false]
 unfold Builtin.Frozenset.addrOf Builtin.Frozenset.sizeOf
 refine wpAny_bind (wpAny_pure ?_)
 try dsimp only
 refine wpAny_bind (wpAny_pure ?_)
 refine wpAny_bind (wpAny_bind (wpAny_setEntries_of x.get rfl x.fits (wpAny_pure ?_)))
 unfold setDrawn setsByText
 refine wpAny_bind (wpAny_bind (wpAny_setState_of x.get rfl x.fits ?_))
 try dsimp only
 refine wpAny_bind (wpAny_bind (wpAny_askSetting (wpAny_pure ?_)))
 refine wpAny_pure ?_
 rw [if_neg (by intro k;rw [CP] at k;exact Bool.noConfusion (show false=true from k.2))]
 refine wpAny_bind (wpAny_pure ?_)
 refine wpAny_bind (wpAny_setEpoch_of x.get rfl x.fits ?_)
 refine wpAny_bind (wpAny_newObj_type (wpAny_pure ⟨_,rfl,"set_iterator",_,⟨_,A7 _ rfl,rfl⟩,slot_next.lookup,?_⟩))
 have e:=x.sz
 simpa [rawInt,e,L5] using h
end
section
variable {prog:Program} {w:World} {A:Around} {E:Value→Shared→Prop} {s:Shared}
theorem ZD {a:Addr} {led:Bool} {l:List Nat} {vs:List Value} {es:Array (Int×Value)} {ep:Nat} {Q:Array (Int×Value)→Shared→Prop} (x:SetE s.heap a led l vs es ep)
 (hb:CI w=true) (h:Q (Dt w a ep es) s):wpAny (model prog w) A (setWalk a) Q E s:=by
 unfold setWalk setsByText
 refine wpAny_bind (wpAny_setState_of x.get rfl x.fits ?_)
 try dsimp only
 refine wpAny_bind (wpAny_bind (wpAny_askSetting (wpAny_pure ?_)))
 show wpAny _ _ (if CI w=true then _ else _) _ _ _
 rw [if_pos hb]
 refine wpAny_bind (wpAny_askSetting ?_)
 refine wpAny_pure ?_
 unfold Dt at h
 rw [if_pos hb] at h
 exact h
theorem SF {a:Addr} {l:List Nat} {vs:List Value} {es:Array (Int×Value)} {ep:Nat} {i:Nat} {Q:Option (Value×Nat)→Shared→Prop} (x:SetE s.heap a (ledW w) l vs es ep) (hi:i≤l.length)
 (h:Q (((Dt w a ep es)[i]?).map fun e=>(e.2,CZ (CI w) l (i+1))) s):wpAny (model prog w) A (setNext a (CZ (CI w) l i) i ep) Q E s:=by
 unfold setNext setsByText
 refine wpAny_bind (wpAny_setState_of x.get rfl x.fits ?_)
 try dsimp only
 refine wpAny_bind (wpAny_bind (wpAny_askSetting (wpAny_pure ?_)))
 show wpAny _ _ (if CI w=true then _ else _) _ _ _
 by_cases hb:CI w=true
 ·rw [if_pos hb]
  simp only [bne_self_eq_false,B2,↓reduceIte]
  refine wpAny_bind (ZD x hb ?_)
  refine wpAny_pure ?_
  have e:CZ (CI w) l i=CZ (CI w) l (i+1):=by
   cases i<;>simp [CZ,hb]
  rw [e]
  exact h
 ·rw [if_neg hb]
  have hb':CI w=false:=by simpa using hb
  have hled:ledW w=true:=by unfold ledW;show (!CI w)=true;rw [hb'];rfl
  rw [if_neg (by intro k;exact Bool.noConfusion (show false=true from k))]
  refine wpAny_bind (m:=_) (wpAny_of_eq (a:=PUnit.unit) ?_ ?_)
  ·rw [hled];rfl
  refine wpAny_pure ?_
  unfold Dt at h
  rw [if_neg hb,hb'] at h
  rw [hb']
  have hbel:SetTable.below (B0 (ledW w) l).place (CZ false l i)=i:=x.below hi
  rw [hbel]
  have hp:(B0 (ledW w) l).place=l.toArray:=rfl
  rw [hp]
  have hz:=x.sz
  by_cases hlt:i<l.length
  ·have h1:es[i]?=some es[i]:=Array.getElem?_eq_getElem (by omega)
   have h2:l.toArray[i]?=some l[i]:=by simp [hlt]
   rw [h1] at h ⊢
   rw [h2]
   have e3:CZ false l (i+1)=l[i]+1:=by simp [CZ,hlt]
   simp only [FT,e3] at h
   exact h
  ·have h1:es[i]?=none:=Array.getElem?_eq_none (by omega)
   rw [h1] at h ⊢
   exact h
end
section
variable {prog:Program} {w:World} {A:Around} {E:Value→Shared→Prop} {s:Shared}
theorem IsIt.typeIs {I a:Addr} {sl i n ep:Nat} (x:IsIt s.heap I a sl i n ep):s.TypeIs (.ref I) "set_iterator":=let ⟨o,ho,hc,_⟩:=x;⟨o,ho,hc⟩
theorem IsIt.at {h h':Heap} {I a:Addr} {sl i n ep:Nat} (x:IsIt h I a sl i n ep) (e:∀o,h.get? I=some o→h'.get? I=some o):IsIt h' I a sl i n ep:=let ⟨o,ho,r⟩:=x;⟨o,e _ ho,r⟩
theorem ZE {I a:Addr} {l:List Nat} {vs:List Value} {es:Array (Int×Value)} {ep i:Nat} {e:Int×Value} {Q:Option Value→Shared→Prop} (x:SetE s.heap a (ledW w) l vs es ep)
 (y:IsIt s.heap I a (CZ (CI w) l i) i l.length ep) (hi:i<l.length) (he:(Dt w a ep es)[i]?=some e)
 (h:∀h',IsIt h' I a (CZ (CI w) l (i+1)) (i+1) l.length ep→Heap.SameBut I s.heap h'→Q (some e.2) {s with heap:=h'}):
 wpAny (model prog w) A (pyNext (.ref I)) Q E s:=by
 obtain ⟨o,ho,hc,hd⟩:=id y
 unfold pyNext
 refine wpAny_bind (wpAny_attempt (wpAny_callSpecial?_slot (name:=Str.ofString "__next__") y.typeIs slot_next
  (wpAny_call_entry slot_next y.typeIs Sz ?_ (SB _))))
 unfold Builtin.«set_iterator.__next__»
 refine wpAny_bind (m:=slotArgs "__next__" 0 _) (wpAny_pure ?_)
 refine wpAny_bind (wpAny_fieldsOf ho hd ?_)
 try dsimp only
 refine wpAny_bind (wpAny_setEntries_of x.get rfl x.fits ?_)
 rw [x.sz]
 simp only [bne_self_eq_false,B2,↓reduceIte,HI]
 refine wpAny_bind (SF x (Ft hi) ?_)
 rw [he]
 show wpAny _ _ _ _ _ _
 refine wpAny_bind (wpAny_setField ho hd (by simp) ?_)
 have g1:=Fp (Obj.mapFields (·.setIfInBounds 0 (rawInt ((CZ (CI w) l (i+1):Nat):Int)))) ho (Obj.isFreed_of_fields (Obj.data_mapFields hd _))
 have d1:=Obj.data_mapFields hd (·.setIfInBounds 0 (rawInt ((CZ (CI w) l (i+1):Nat):Int)))
 refine wpAny_bind (wpAny_setField g1 d1 (by simp) ?_)
 have g2:=Fp (Obj.mapFields (·.setIfInBounds 1 (rawInt ((i:Int)+1)))) g1 (Obj.isFreed_of_fields (Obj.data_mapFields d1 _))
 refine wpAny_pure ⟨_,rfl,wpAny_pure (h _ ⟨_,g2,?_,?_⟩ ((Heap.SameBut.update ..).trans (Heap.SameBut.update ..)))⟩
 ·exact (Obj.cls_mapFields ..).trans ((Obj.cls_mapFields ..).trans hc)
 ·rw [Obj.data_mapFields d1];simp [rawInt]
theorem ZF {I a:Addr} {l:List Nat} {vs:List Value} {es:Array (Int×Value)} {ep:Nat} {Q:Option Value→Shared→Prop} (hh:A.handled=none) (x:SetE s.heap a (ledW w) l vs es ep)
 (y:IsIt s.heap I a (CZ (CI w) l l.length) l.length l.length ep)
 (h:∀h',Heap.ExtBut I s.heap h'→Q none {s with heap:=h'}):
 wpAny (model prog w) A (pyNext (.ref I)) Q E s:=by
 obtain ⟨o,ho,hc,hd⟩:=id y
 have hz:(Dt w a ep es).size=l.length:=by rw [←Array.length_toList,(L4 w a ep es).length_eq,Array.length_toList,x.sz]
 unfold pyNext
 refine wpAny_bind (wpAny_attempt (wpAny_callSpecial?_slot (name:=Str.ofString "__next__") y.typeIs slot_next
  (wpAny_call_entry slot_next y.typeIs Sz ?_ (SB _))))
 unfold Builtin.«set_iterator.__next__»
 refine wpAny_bind (m:=slotArgs "__next__" 0 _) (wpAny_pure ?_)
 refine wpAny_bind (wpAny_fieldsOf ho hd ?_)
 try dsimp only
 refine wpAny_bind (wpAny_setEntries_of x.get rfl x.fits ?_)
 rw [x.sz]
 simp only [bne_self_eq_false,B2,↓reduceIte,HI]
 refine wpAny_bind (SF x (AF _) ?_)
 rw [Array.getElem?_eq_none (by omega)]
 show wpAny _ _ _ _ _ _
 refine wpAny_bind (wpAny_setField ho hd (by simp) ?_)
 show wpAny _ _ (newExc (.type "StopIteration") [] >>=_) _ _ _
 refine wpAny_bind ?_
 simp only [newExc,newTuple]
 refine wpAny_bind (wpAny_newObj_type ?_ (by size_fits))
 refine wpAny_bind (m:=firstArgMember _ _) (wpAny_of_eq (a:=Value.none) (by first |rfl |(simp only [firstArgMember];rfl)) ?_)
 refine wpAny_newObj_type ?_ (by size_fits)
 simp only [raiseNew]
 refine wpAny_bind (wpAny_handled ?_)
 rw [show A.in1.handled=none from hh]
 refine wpAny_bind (wpAny_pure (wpAny_throw ?_))
 refine wpAny_bind (wpAny_isInstance (T:="StopIteration") (b:=true) ⟨_,A7 _ rfl,rfl⟩ isSubtype_stop ?_)
 exact wpAny_pure (h _ (((Heap.SameBut.update ..).extBut.push _).push _))
end
theorem SG:Slot "set_iterator" "__iter__" "set_iterator.__iter__":=
 .of (owner:="set_iterator") (n:="__iter__") (by rw [typeLookup_type,builtinLookup_eq_fast];kernel_rfl) (by decide +kernel) (by decide +kernel) (by decide +kernel)
  (by first |exact .inl (by decide +kernel) |exact .inr (by decide +kernel)) (by rw [isSubtype_type];kernel_rfl)
theorem ZG:entryFor table "set_iterator.__iter__"=some Builtin.«dict_keyiterator.__iter__»:=
 entryFor_alias (id':="dict_keyiterator.__iter__") (by kernel_rfl) rfl (by decide +kernel) (by kernel_rfl)
theorem ZH (a:Value):argsOk "set_iterator.__iter__" ⟨[a],[]⟩:=by
 unfold argsOk;rw [signature?_of (id:="set_iterator.__iter__") (n:=['_','_','r','e','t','i','_','_']) (o:=['r','o','t','a','r','e','t','i','_','t','e','s']) (by kernel_rfl) SA];kernel_rfl
section
variable {prog:Program} {w:World} {A:Around} {E:Value→Shared→Prop} {s:Shared}
theorem ZI {I a:Addr} {sl i n ep:Nat} {Q:Value→Shared→Prop} (y:IsIt s.heap I a sl i n ep) (h:Q (.ref I) s):wpAny (model prog w) A (pyIter (.ref I)) Q E s:=by
 refine wpAny_pyIter_slot y.typeIs SG (wpAny_call_entry SG y.typeIs ZG ?_ (ZH _))
 show wpAny _ _ (ret (.ref I)) _ _ s
 exact wpAny_pure ⟨_,rfl,"set_iterator",_,y.typeIs,slot_next.lookup,h⟩
theorem ZJ (hh:A.handled=none) (I a:Addr) (hne:a≠I) (l:List Nat) (vs:List Value) (es:Array (Int×Value)) (ep:Nat):
 Walks prog w A I [I,a] [I] l.length (fun i v=>∃e,(Dt w a ep es)[i]?=some e∧v=e.2) (fun i h=>IsIt h I a (CZ (CI w) l i) i l.length ep∧SetE h a (ledW w) l vs es ep) where
 sub:=fun b hb=>by simp at hb;simp [hb]
 frame:=fun _ _ _ st hk=>⟨st.1.at fun o e=>hk I (by simp) o e,st.2.at fun o e=>hk a (by simp) o e⟩
 item:=fun i s Q E hi st hQ=>by
  have hz:(Dt w a ep es).size=l.length:=by rw [←Array.length_toList,(L4 w a ep es).length_eq,Array.length_toList,st.2.sz]
  obtain ⟨e,he⟩:∃e,(Dt w a ep es)[i]?=some e:=⟨(Dt w a ep es)[i],by simp [hz,hi]⟩
  refine ZE st.2 st.1 hi he fun h' hit' hs'=>?_
  exact hQ e.2 h' s.toks ⟨e,he,rfl⟩ ⟨hit',st.2.at fun o e=>hs'.extBut a o hne e⟩ fun b o hb e=>hs'.extBut b o (fun h=>hb (by simp [h])) e
 done:=fun s Q E st hQ=>ZF hh st.2 st.1 fun h' he'=>hQ h' s.toks fun b o hb e=>he' b o (fun h=>hb (by simp [h])) e
 self:=fun _ _ _ _ st hQ=>ZI st.1 hQ
theorem ZK {a:Addr} {l:List Nat} {vs:List Value} {es:Array (Int×Value)} {ep:Nat} {Q:List Value→Shared→Prop} (hh:A.handled=none) (x:SetE s.heap a (ledW w) l vs es ep)
 (h:∀h' tk out,(∀b o,s.heap.get? b=some o→h'.get? b=some o)→out=(Dt w a ep es).toList.map (·.2)→s.heap.objs.size≤h'.objs.size→Q out {s with heap:=h',toks:=tk}):
 wpAny (model prog w) A (collect (.ref a)) Q E s:=by
 have halt:a<s.heap.objs.size:=AE x.get
 unfold collect
 refine wpAny_bind (wpAny_runValue (codeAny_builtin F.entry_proto_collect ?_))
 rw [Around.under_plainId F.plain_proto_collect _]
 show wpAny _ A.in1 (newList [] >>=fun l=>again (.builtin "list.__iadd__" ⟨[l,.ref a],[]⟩)) _ _ s
 refine wpAny_bind (wpAny_newObj_type ?_)
 refine wpAny_pure ⟨plainId_quiet F.plain_list_iadd _,codeAny_builtin F.entry_list_iadd ?_⟩
 rw [Around.under_plainId F.plain_list_iadd _]
 show wpAny _ A.in1 (Builtin.List.listExtendWith (.ref s.heap.objs.size) (.ref a) (.ref s.heap.objs.size)) _ _ _
 generalize hH1:s.heap.push {cls:=.type "list",data:=.seq ([]:List Value).toArray}=H1
 have k1:∀b o,s.heap.get? b=some o→H1.get? b=some o:=fun b o e=>by rw [←hH1];exact AB _ e
 have z1:H1.objs.size=s.heap.objs.size+1:=by rw [←hH1,B9]
 have gL:H1.get? s.heap.objs.size=some {cls:=.type "list",data:=.seq ([]:List Value).toArray}:=by rw [←hH1];exact A7 _ rfl
 have x1:SetE H1 a (ledW w) l vs es ep:=x.at fun o e=>k1 _ _ e
 unfold Builtin.List.listExtendWith
 have hT1:Shared.TypeIs {s with heap:=H1} (.ref a) "set":=⟨_,x1.get,rfl⟩
 refine wpAny_bind (wpAny_typeOf hT1 ?_)
 have h1:Builtin.List.listSameRef (.ref s.heap.objs.size) (.ref a)=false:=by
  simp only [Builtin.List.listSameRef,beq_eq_false_iff_ne,ne_eq];exact BP halt
 have h2:(Value.type "set"==Value.type "list")=false:=by decide
 have h3:(Value.type "set"==Value.type "tuple")=false:=by decide
 simp only [h1,h2,h3,Bool.or_false,B2,if_false]
 refine wpAny_bind (ZC (s:={s with heap:=H1}) x1 ?_)
 generalize hH2:({s with heap:=H1}:Shared).heap.push (L5 a 0 0 l.length ep)=H2
 have k2:∀b o,H1.get? b=some o→H2.get? b=some o:=fun b o e=>by rw [←hH2];exact AB _ e
 have gI:H2.get? H1.objs.size=some (L5 a 0 0 l.length ep):=by rw [←hH2];exact A7 _ rfl
 have x2:SetE H2 a (ledW w) l vs es ep:=x1.at fun o e=>k2 _ _ e
 have hT2:Shared.TypeIs {s with heap:=H2} (.ref a) "set":=⟨_,x2.get,rfl⟩
 refine wpAny_bind (wpAny_holding ?_)
 unfold Builtin.List.listLengthHint
 refine wpAny_bind (wpAny_specialOf hT2 F.slot_set_len.lookup ?_)
 try dsimp only
 have hsp:splitId "set.__len__"=some ("set","__len__"):=by kernel_rfl
 rw [hsp]
 try dsimp only
 refine wpAny_bind (wpAny_isInstance hT2 sub_set_self ?_)
 simp only [Bool.not_true,B2,↓reduceIte]
 rw [if_pos (by decide +kernel)]
 refine wpAny_bind (wpAny_typeOf hT2 ?_)
 try dsimp only
 refine wpAny_pure ?_
 rw [if_pos (by decide +kernel)]
 refine wpAny_bind (wpAny_rule ?_)
 have gL2:=k2 _ _ gL
 refine wpAny_bind ?_
 show wpAny _ A.in1 (updateSeq s.heap.objs.size (·.push .none) >>=fun _=>updateSeq s.heap.objs.size (·.pop)) _ _ _
 refine wpAny_bind (wpAny_updateSeq gL2 rfl ?_)
 have hS₂:=Fp (Obj.mapSeq (·.push Value.none)) gL2 rfl
 refine wpAny_updateSeq hS₂ rfl ?_
 have hS₃:=Fp (Obj.mapSeq (·.pop)) hS₂ rfl
 have oth:∀b o,b≠s.heap.objs.size→H2.get? b=some o→
  ((H2.update s.heap.objs.size (Obj.mapSeq (·.push Value.none))).update s.heap.objs.size (Obj.mapSeq (·.pop))).get? b=some o:=
  fun b o hb e=>(IY _ _ (Ne.symm hb)).trans ((IY _ _ (Ne.symm hb)).trans e)
 have zI:s.heap.objs.size<H1.objs.size:=by omega
 have hSf:s.heap.objs.size∉[H1.objs.size,a]:=by
  simp only [qa4,Cz,or_false,not_or]
  exact ⟨Bg zI,BP halt⟩
 have W:=(ZJ (prog:=prog) (w:=w) (A:=A.in1) hh H1.objs.size a (Bg (Nat.lt_trans halt zI)) l vs es ep).toS
 have hn:l.length≤sizeLine:=by
  obtain ⟨_,_,_,_,_,n⟩:=x
  rw [sizeLine_eq];omega
 have st:IsIt ((H2.update s.heap.objs.size (Obj.mapSeq (·.push Value.none))).update s.heap.objs.size (Obj.mapSeq (·.pop))) H1.objs.size a (CZ (CI w) l 0) 0 l.length ep∧
  SetE ((H2.update s.heap.objs.size (Obj.mapSeq (·.push Value.none))).update s.heap.objs.size (Obj.mapSeq (·.pop))) a (ledW w) l vs es ep:=
  ⟨⟨_,oth _ _ (BP zI) gI,rfl,rfl⟩,x2.at fun o e=>oth _ _ (Bg halt) e⟩
 refine wpAny_pure ⟨plainId_quiet F.plain_extend_loop _,codeAny_extend_loopS W hn _ hSf _ l.length 0 _ _ _ rfl (DE _) st hS₃ (ItemsOf.nil _) fun s' acc' c' hm hS' hacc=>?_⟩
 obtain ⟨h',g',d',tk',os'⟩:=s'
 have eg:g'=s.gens:=hm.gens
 have ed:d'=s.drawn:=hm.drawn
 have eo:os'=s.os:=hm.os
 subst eg;subst ed;subst eo
 show wpAny _ A (load s.heap.objs.size >>=_) _ _ _
 refine wpAny_bind (wpAny_load hS' ?_)
 have keep:∀b o,s.heap.get? b=some o→h'.get? b=some o:=fun b o e=>by
  have hb:=AE e
  refine hm.heap b o ?_ (oth b o (Bg hb) (k2 _ _ (k1 _ _ e)))
  simp only [qa4,Cz,or_false,not_or]
  exact ⟨Bg hb,Bg (Nat.lt_trans hb zI)⟩
 refine wpAny_pure (h h' tk' acc'.toList keep ?_ (Ft (AE hS')))
 have hz:(Dt w a ep es).size=l.length:=by rw [←Array.length_toList,(L4 w a ep es).length_eq,Array.length_toList,x.sz]
 apply List.ext_getElem?
 intro i
 rw [Array.getElem?_toList,Ck,Array.getElem?_toList]
 by_cases hi:i<l.length
 ·have hai:acc'[i]?=some (acc'[i]'(by rw [hacc.1];exact hi)):=Array.getElem?_eq_getElem _
  obtain ⟨e,he,ev⟩:=hacc.2 i _ hai
  rw [hai,he,ev];rfl
 ·rw [Array.getElem?_eq_none (by rw [hacc.1];omega),Array.getElem?_eq_none (by omega)];rfl
theorem ZL:∀{l:List Nat} {vs:List Value},IntsAre vs (l.map (fun (x:Nat)=>(x:Int)))→∀(p:List (Int×Value)),p.Perm (Dg l vs)→IntsAre (p.map (·.2)) (p.map (·.1)):=by
 intro l vs i p hp
 have key:∀e∈p,∃t,e.2=.int e.1 t:=fun e he=>by
  obtain ⟨n,t,_,rfl⟩:=LZ i e (hp.mem_iff.mp he)
  exact ⟨t,rfl⟩
 clear hp
 induction p with
 |nil=>exact .nil
 |cons e p ih=>
  obtain ⟨t,et⟩:=key e (.head _)
  simp only [Bu]
  rw [et]
  exact .cons _ _ (ih fun e he=>key e (.tail _ he))
end
section
variable {prog:Program} {w:World} {A:Around} {E:Value→Shared→Prop} {s:Shared}
theorem SH:∀{a b:List Int},a.Perm b→a.Pairwise (·≤·)→b.Pairwise (·< ·)→a=b
 |[],b,p,_,_=>(List.nil_perm.mp p).symm
 |x::a,[],p,_,_=>absurd p.length_eq (by simp)
 |x::a,y::b,p,ha,hb=>by
  rw [qc6] at ha hb
  have e:x=y:=by
   have hx:x∈y::b:=p.mem_iff.mp (.head _)
   have hy:y∈x::a:=p.mem_iff.mpr (.head _)
   rcases qa4.mp hx with e |hx
   ·exact e
   ·rcases qa4.mp hy with e |hy
    ·exact e.symm
    ·have:=ha.1 y hy;have:=hb.1 x hx;omega
  subst e
  rw [SH (List.perm_cons x |>.mp p) ha.2 hb.2]
theorem sorted_at {a:Addr} {l:List Nat} {vs:List Value} {Q:Value→Shared→Prop} (hh:A.handled=none) (x:SetAt s.heap a (ledW w) l vs) (hp:l.Pairwise (·< ·)) (h8:∀n∈l,n<8) (hle:l.length≤8)
 (h:∀h' tk L vs' e,(∀b o,s.heap.get? b=some o→h'.get? b=some o)→s.heap.objs.size≤L→h'.get? L=some (seqObj "list" vs'.toArray e)→IntsAre vs' (l.map (fun (x:Nat)=>(x:Int)))→Q (.ref L) {s with heap:=h',toks:=tk}):
 wpAny (model prog w) A (call (.builtin "sorted") [.ref a]) Q E s:=by
 obtain ⟨es,ep,g,he,hi⟩:=x
 have x:SetE s.heap a (ledW w) l vs es ep:=⟨g,he,hi,hp,h8,hle⟩
 refine Calls.call_function_entry kind_sorted plain_sorted entry_sorted (args_sorted1 _) ?_
 unfold Builtin.«sorted»
 refine wpAny_bind (m:=checkCount "sorted" 1 1 _) (wpAny_pure ?_)
 refine wpAny_bind (ZK (A:=A.in1) hh x fun h1 tk out k1 eo z1=>?_)
 have hper:(Dt w a ep es).toList.Perm (Dg l vs):=by rw [←he];exact L4 w a ep es
 have hI:=ZL hi _ hper
 rw [←eo] at hI
 have h64:out.length<64:=by
  rw [eo,CA,hper.length_eq,Ow hi];omega
 refine wpAny_bind (wpAny_newList ?_)
 have hoL:(h1.push (seqObj "list" out.toArray 0)).get? h1.objs.size=some (seqObj "list" out.toArray 0):=A7 _ rfl
 show wpAny _ _ _ _ _ {s with heap:=h1.push (seqObj "list" out.toArray 0),toks:=tk}
 refine wpAny_bind (wpAny_holding (wpAny_call_entry slot_list_sort ⟨_,hoL,rfl⟩ entry_list_sort (list_sort_tree hoL hI h64 fun o2 ns' a1 a2 a3=>⟨_,rfl,?_⟩) (args_list_sort _)))
 have hns:ns'=l.map (fun (x:Nat)=>(x:Int)):=by
  refine SH (a2.trans ?_) a3 ?_
  ·have:=hper.map (·.1)
   unfold Dg at this
   rwa [List.map_fst_zip (by rw [IntsAre.length hi];exact AF _)] at this
  ·rw [List.pairwise_map];exact hp.imp fun h=>by omega
 rw [hns] at a1
 obtain ⟨e,ge⟩:=sortedHeap_at (out:=o2) hoL
 refine wpAny_pure ⟨_,rfl,h _ tk h1.objs.size o2.toList e (fun b o eb=>?_) z1 (by simpa using ge) a1⟩
 have e1:=k1 _ _ eb
 have hlt:=AE e1
 rw [sortedHeap_old (Bg hlt) (by rw [B9];exact Fq hlt)]
 exact AB _ e1
end
end SetX
namespace LS
open PySem PySem.Spec PyProof.Rows L2 PySem.W
def J1 (w:World) (a:Addr) (l:List Nat) (h:Heap):Prop:=∃vs,SetX.SetAt h a (SetX.ledW w) l vs
theorem SI:∀(l:List Nat) {us:List Value},Vals (l.map fun k=>V.int ((k:Nat):Int)) us→IntsAre us (l.map fun (x:Nat)=>(x:Int))
 |[],_,h=>by cases h;exact .nil
 |k::l,_,h=>by
  cases h with
  |cons r t=>
   obtain ⟨tk,e⟩:=r
   subst e
   exact .cons _ _ (SI l t)
theorem SJ:∀(l:List Nat) {us:List Value},IntsAre us (l.map fun (x:Nat)=>(x:Int))→Vals (l.map fun k=>V.int ((k:Nat):Int)) us
 |[],_,h=>by cases h;exact .nil
 |k::l,_,h=>by
  cases h with
  |cons _ t r=>exact .cons ⟨t,rfl⟩ (SJ l r)
section
variable {X:Cx} {E:XK}
inductive SK (w:World) (K:Frag) (vs:List V) (H:Hp) (Q:VK):Prop where
 |mk (r:Addr) (l:List Nat) (e:vs=[.ref r]) (hr:SqT K H r (l.map fun k=>V.int ((k:Nat):Int))) (hp:l.Pairwise (·< ·)) (h8:∀x∈l,x<8) (hl:l.length≤8)
  (q:∀p,H p=none→Q (.ref p) (Ao H p (.ext (J1 w p l)))):SK w K vs H Q
inductive SL (w:World) (vs:List V) (H:Hp) (Q:VK):Prop where
 |mk (r:Addr) (l:List Nat) (e:vs=[.ref r]) (hr:H r=some (.ext (J1 w r l))) (hp:l.Pairwise (·< ·)) (h8:∀x∈l,x<8) (hl:l.length≤8)
  (q:∀p,H p=none→Q (.ref p) (Ao H p (.lst (l.map fun k=>V.int ((k:Nat):Int))))):SL w vs H Q
theorem ZM (hc:X.calm=true):CQ X (.type "set") (SK X.w X.K):=by
 intro pins s σ H vs us Q I r h
 obtain ⟨p,l,rfl,hq,hp,h8,hl,q⟩:=h
 obtain ⟨u,rfl,rx⟩:=DY r
 cases rx
 obtain ⟨its,r',pl,hz⟩:=I.tuple hq
 refine SetX.set_tuple_at (I.ok.hd hc) pl (SI l r') hp h8 hl fun h' tk hS hk=>?_
 have kp:∀b o,s.heap.get? b=some o→h'.get? b=some o:=fun b o e=>hk b o (AE e) e
 have hf:H s.heap.objs.size=none:=I.hok.fresh (AF _)
 refine ⟨.ref s.heap.objs.size,Ao H s.heap.objs.size (.ext (J1 X.w s.heap.objs.size l)),I.laid (t':=tk) kp (AF _) ?_,rfl,q _ hf⟩
 refine ⟨⟨_,hS⟩,?_,fun h1 h2 z k=>?_⟩
 ·obtain ⟨es,ep,g,_,_⟩:=hS
  exact ⟨_,g⟩
 ·obtain ⟨vs',z⟩:=z
  exact ⟨vs',z.at k⟩
theorem ZN (hc:X.calm=true):CQ X (.builtin "sorted") (SL X.w):=by
 intro pins s σ H vs us Q I r h
 obtain ⟨a,l,rfl,hr,hp,h8,hl,q⟩:=h
 obtain ⟨u,rfl,rx⟩:=DY r
 cases rx
 obtain ⟨⟨vs',hS⟩,_⟩:=(show ObjOk X.prog X.w H s.heap a (.ext (J1 X.w a l)) from I.hok a _ hr)
 refine SetX.sorted_at (I.ok.hd hc) hS hp h8 hl fun h' tk L vs2 e kp hL g hi=>?_
 have hf:H L=none:=I.hok.fresh hL
 refine ⟨.ref L,Ao H L (.lst (l.map fun k=>V.int ((k:Nat):Int))),I.laid (t':=tk) kp hL ?_,rfl,q _ hf⟩
 exact (show ObjOk X.prog X.w _ h' _ (.lst (l.map fun k=>V.int ((k:Nat):Int))) from ⟨by rw [CA,sizeLine_eq];omega,vs2,e,SJ l hi,g⟩)
inductive IT:D→List Nat→Prop
 |mk (l:List Nat) (hp:l.Pairwise (·< ·)) (h8:∀x∈l,x<8) (hl:l.length≤8):IT (.tup (l.map fun k=>D.int ((k:Nat):Int))) l
noncomputable def J2:D→HD→Out D:=fun d h=>@dite _ (∃l,IT d l) (Classical.propDecidable _) (fun z=>B6 (z.choose.map fun k=>D.int ((k:Nat):Int)) h) (fun _=>.stuck)
noncomputable def L6 (f:ME):ME:=fun ρ h=>(f ρ h).bind J2
theorem SM:∀{a b:List Nat},(a.map fun k=>D.int ((k:Nat):Int))=(b.map fun k=>D.int ((k:Nat):Int))→a=b
 |[],[],_=>rfl
 |[],_::_,h=>by cases h
 |_::_,[],h=>by cases h
 |x::a,y::b,h=>by
  simp only [Bu,List.cons.injEq,D.int.injEq] at h
  rw [SM h.2,show x=y by omega]
theorem ZO {d:D} {a b:List Nat} (x:IT d a) (y:IT d b):a=b:=by
 cases x with
 |mk _ hp h8 hl=>
  generalize hd:D.tup (a.map fun k=>D.int ((k:Nat):Int))=d at y
  cases y with
  |mk _ _ _ _=>exact SM (by simpa using hd)
theorem SO {l:List Nat} {h:HD} (hp:l.Pairwise (·< ·)) (h8:∀x∈l,x<8) (hl:l.length≤8):J2 (.tup (l.map fun k=>D.int ((k:Nat):Int))) h=B6 (l.map fun k=>D.int ((k:Nat):Int)) h:=by
 have z:∃m,IT (.tup (l.map fun k=>D.int ((k:Nat):Int))) m:=⟨l,.mk l hp h8 hl⟩
 unfold J2
 rw [dif_pos z,ZO z.choose_spec (.mk l hp h8 hl)]
theorem SQ {K:Frag} {m:List Addr} {H:Hp}:∀(l:List Nat) {ws:List V},DVs K m H (l.map fun k=>D.int ((k:Nat):Int)) ws→ws=l.map fun k=>V.int ((k:Nat):Int)
 |[],_,h=>by simpa [DVs] using h
 |k::l,_,h=>by
  simp only [Bu,DVs] at h
  obtain ⟨w,ws,rfl,r,t⟩:=h
  simp only [DV] at r
  rw [SQ l t,r];rfl
theorem ZP {e:Expr} {f:ME} {p q pos pos':Pos} (hc:X.calm=true) (hg1:Gl X "sorted") (hm1:X.mg "sorted"=none) (hg2:Gl X "set") (hm2:X.mg "set"=none) (hv1:bootBuiltins "sorted"=some (.builtin "sorted")) (hv2:bootBuiltins "set"=some (.type "set")) (he:Ev X E e f)
 (h1:starEach [e] X.env=(false,eval e X.env)::starEach [] X.env:=by rfl) (h2:(backTo pos' (starEach [] X.env)).any (·.1)=false:=by rfl)
 (h3:starEach [.Call (.Name "set" q) [e] [] pos'] X.env=(false,eval (.Call (.Name "set" q) [e] [] pos') X.env)::starEach [] X.env:=by rfl) (h4:(backTo pos (starEach [] X.env)).any (·.1)=false:=by rfl):
 Ev X E (.Call (.Name "sorted" p) [.Call (.Name "set" q) [e] [] pos'] [] pos) (L6 f):=by
 refine BW (PJ (ZN hc) hg1 hm1 hv1 (Jh (KH (ZM hc) hg2 hm2 hv2 (Jh he Jg h1) (by decide) (by decide) h1 h2) Jg h3) (by decide) (by decide) h3 h4) fun σ H Q z=>?_
 obtain ⟨m,ρ,h,hr,er,pp⟩:=z
 refine ⟨m,ρ,h,hr,er,Post.bind pp fun d h1 v m1 H1 eo p1 k1 hr1 r1 q1=>?_⟩
 by_cases z:∃l,IT d l
 ·obtain ⟨l,z⟩:=z
  cases z with
  |mk _ hp h8 hl=>
   rw [SO hp h8 hl] at q1
   simp only [rD,DV] at r1
   obtain ⟨a,ws,rfl,ha,dv⟩:=r1
   have ew:=SQ l dv
   subst ew
   refine ⟨a,l,rfl,SqT.of ha,hp,h8,hl,fun b hb=>⟨b,l,rfl,B3,hp,h8,hl,?_⟩⟩
   exact (HY (X:=X) (E:=E) (H:=Ao H1 b (.ext (J1 X.w b l))) (hr1.new hb) (Oc l) (Post.ahead (AQ _) (.new hb) (by simpa using q1))).2
 ·unfold J2 at q1
  rw [dif_neg z] at q1
  exact q1.elim
theorem ZQ {f:ME} {ρ:Aj} {h:HD} {Q:D→HD→Prop}:Wp (L6 f ρ h) Q=Wp (f ρ h) fun d h1=>Wp (J2 d h1) Q:=by unfold L6;rw [AG]
end
end LS
set_option maxHeartbeats 0
namespace LK
open PySem PySem.Spec PyProof.Rows L2 LS
def A6 (i:Nat):Stmt:=PySem.Challenge.pw_lineswitch_k31_what_is_left.main.body.getD i (.Pass ⟨0,0,0,0⟩)
structure Bl (mg:Str→Option Value):Prop where
 n_ValueError:mg "ValueError"=none
 n_all:mg "all"=none
 n_bool:mg "bool"=none
 n_divmod:mg "divmod"=none
 n_enumerate:mg "enumerate"=none
 n_int:mg "int"=none
 n_isinstance:mg "isinstance"=none
 n_len:mg "len"=none
 n_list:mg "list"=none
 n_max:mg "max"=none
 n_min:mg "min"=none
 n_range:mg "range"=none
 n_repr:mg "repr"=none
 n_set:mg "set"=none
 n_sorted:mg "sorted"=none
 n_sum:mg "sum"=none
 n_tuple:mg "tuple"=none
 n_zip:mg "zip"=none
theorem ZR:bootBuiltins "ValueError"=some (.type "ValueError"):=by decide +kernel
theorem Oy:bootBuiltins "all"=some (.builtin "all"):=by decide +kernel
theorem SS:bootBuiltins "bool"=some (.type "bool"):=by decide +kernel
theorem ZS:bootBuiltins "divmod"=some (.builtin "divmod"):=by decide +kernel
theorem J3:bootBuiltins "int"=some (.type "int"):=by decide +kernel
theorem Ci:bootBuiltins "isinstance"=some (.builtin "isinstance"):=by decide +kernel
theorem CJ:bootBuiltins "len"=some (.builtin "len"):=by decide +kernel
theorem Oz:bootBuiltins "list"=some (.type "list"):=by decide +kernel
theorem ZT:bootBuiltins "max"=some (.builtin "max"):=by decide +kernel
theorem J4:bootBuiltins "min"=some (.builtin "min"):=by decide +kernel
theorem L7:bootBuiltins "repr"=some (.builtin "repr"):=by decide +kernel
theorem ZU:bootBuiltins "set"=some (.type "set"):=by decide +kernel
theorem ZV:bootBuiltins "sorted"=some (.builtin "sorted"):=by decide +kernel
theorem GU:bootBuiltins "sum"=some (.builtin "sum"):=by decide +kernel
theorem Cs:bootBuiltins "tuple"=some (.type "tuple"):=by decide +kernel
abbrev J5:Stmt:=A6 45
theorem OA:RP J5:=⟨⟨rfl,rfl,rfl,by decide +kernel,rfl,by decide +kernel,by decide +kernel⟩,rfl,rfl,rfl,rfl,rfl,⟨_,_,_,_,_,_,_,_,_,_,_,_,_,_,_,_,_,rfl⟩⟩
abbrev GV:Stmt:=A6 14
theorem ZW:AY ["thing"] ["thing"] (defScope GV):=⟨rfl,rfl,rfl,by decide +kernel,rfl,by decide +kernel,by decide +kernel⟩
noncomputable abbrev OB:MS:=Av (F0 (Ag (Bd AO) (Aa (Ab 0) (Aa (mC (.ty "int")) (Ad)))) (KR (Ag (Bd AO) (Aa (Ab 0) (Aa (mC (.ty "bool")) (Ad))))))
abbrev GW:Stmt:=A6 17
theorem ZX:AY ["thing"] ["thing"] (defScope GW):=⟨rfl,rfl,rfl,by decide +kernel,rfl,by decide +kernel,by decide +kernel⟩
noncomputable abbrev OC:MS:=Av (F0 (Ag (Bd AO) (Aa (Ab 0) (Aa (mC (.ty "tuple")) (Ad)))) (Fw Ia Ia (mC (.int 1)) (Ag (An Bn) (Aa (Ab 0) (Ad))) (mC (.int 8))))
abbrev GX:Stmt:=A6 27
theorem ZY:AY ["row","columns","is_turned"] ["row","columns","is_turned"] (defScope GX):=⟨rfl,rfl,rfl,by decide +kernel,rfl,by decide +kernel,by decide +kernel⟩
noncomputable abbrev OD:MS:=Av (Ag (An BJ) (Aa (AX [none,none,some 1,some 2] (E6 (Aa (Ab 0) (Ad))) (CD 0 1) (Br) (Jn (Bc (Ah CH (Ah (EY false) (Ab 0) (Ab 2)) (Ab 3))) (Ab 1) (Ah Fx (mC (.int 1)) (Ab 1)))) (Ad)))
abbrev GY:Stmt:=A6 31
theorem ZZ:AY ["counts","row"] ["counts","row"] (defScope GY):=⟨rfl,rfl,rfl,by decide +kernel,rfl,by decide +kernel,by decide +kernel⟩
noncomputable abbrev OE:MS:=Av (Ag (An BJ) (Aa (AX [none,none] (Lr (Aa (Ab 0) (Aa (Ab 1) (Ad)))) (CD 0 1) (Br) (Ah Fx (Ah AL (Ab 0) (mC (.int 1))) (Ah Cf (mC (.int 2)) (Ab 1)))) (Ad)))
abbrev GZ:Stmt:=A6 33
theorem Z0:AY ["counts","high"] ["counts","high"] (defScope GZ):=⟨rfl,rfl,rfl,by decide +kernel,rfl,by decide +kernel,by decide +kernel⟩
noncomputable abbrev OF:MS:=Av (Ag (An CU) (Aa (AX [none,some 1] (Bq (Ab 0)) (A5 0) (Br) (Ag (Bd F7) (Aa (Ab 0) (Aa (Ah Fx (Ab 1) (Ab 0)) (Ad))))) (Ad)))
abbrev G0:Stmt:=A6 34
theorem Z1:AY ["counts","high"] ["counts","high"] (defScope G0):=⟨rfl,rfl,rfl,by decide +kernel,rfl,by decide +kernel,by decide +kernel⟩
noncomputable abbrev OG:MS:=Av (Ag (An BJ) (Aa (AX [none,none,some 1] (E6 (Aa (Ab 0) (Ad))) (CD 0 1) (Bc (Ah KV (Ah Cf (mC (.int 2)) (Ab 1)) (Ab 2))) (Ab 0)) (Ad)))
abbrev G1:Stmt:=A6 39
theorem Z2:AY ["_law_script","_law_k"] ["_law_script","_law_k"] (defScope G1):=⟨rfl,rfl,rfl,by decide +kernel,rfl,by decide +kernel,by decide +kernel⟩
noncomputable abbrev L8:MS:=Ak (Bh (Bc (Ah H0 (Ab 1) (Ag (An Bn) (Aa (Ab 0) (Ad))))) (Av (Ah AC (Ab 0) (Ab 1))) (Bp)) (Av (Ah AL (Ah Cf (mC (.int 6151)) (Ab 1)) (mC (.int 29))))
abbrev G2:Stmt:=A6 40
theorem sc__law_mix:AY ["_law_cell_here","_law_k","_law_number"] ["_law_cell_here","_law_k"] (defScope G2):=⟨rfl,rfl,rfl,by decide +kernel,rfl,by decide +kernel,by decide +kernel⟩
noncomputable abbrev OH:MS:=Ak (Aw 2 (Ah AL (Ah Cf (Ah AL (Ab 0) (mC (.int 1))) (mC (.int 40692))) (Ah Cf (mC (.int 104729)) (Ab 1)))) (Ak (Aw 2 (Ah AL (Ah Ek (Ah Cf (Ab 2) (Ab 2)) (mC (.int 2147483399))) (Ab 1))) (Av (Ah Ek (Ah Cf (Ab 2) (Ah AL (Ab 2) (mC (.int 31)))) (mC (.int 2147483563)))))
abbrev G3:Stmt:=A6 42
theorem sc__law_take:AY ["_law_box_here","_law_many","_law_left","_law_digit"] ["_law_box_here","_law_many"] (defScope G3):=⟨rfl,rfl,rfl,by decide +kernel,rfl,by decide +kernel,by decide +kernel⟩
noncomputable abbrev OI:MS:=Ak (F8 (CD 2 3) (Ag (Bd Ju) (Aa (Ah AC (Ab 0) (mC (.int 0))) (Aa (Ab 1) (Ad))))) (Ak (K8 (Ab 0) (mC (.int 0)) (Ab 2)) (Av (Ab 3)))
abbrev G4:Stmt:=A6 44
theorem sc__law_kind:AY ["_law_e","_law_kinds","_law_words"] ["_law_e"] (defScope G4):=⟨rfl,rfl,rfl,by decide +kernel,rfl,by decide +kernel,by decide +kernel⟩
noncomputable abbrev OJ:MS:=Ak (Aw 1 (Ba (Aa (Ag (Bd AO) (Aa (Ab 0) (Aa (mC (.glo "NoBoard")) (Ad)))) (Aa (Ag (Bd AO) (Aa (Ab 0) (Aa (mC (.glo "NoLine")) (Ad)))) (Aa (Ag (Bd AO) (Aa (Ab 0) (Aa (mC (.glo "NoSwitching")) (Ad)))) (Aa (Ag (Bd AO) (Aa (Ab 0) (Aa (mC (.glo "NoNumber")) (Ad)))) (Ad))))))) (Ak (Aw 1 (Ah AL (Ab 1) (Ba (Aa (Ag (Bd AO) (Aa (Ab 0) (Aa (mC (.glo "Unlike")) (Ad)))) (Aa (Ag (Bd AO) (Aa (Ab 0) (Aa (mC (.glo "NoNet")) (Ad)))) (Aa (Ag (Bd AO) (Aa (Ab 0) (Aa (mC (.glo "NoPlace")) (Ad)))) (Aa (Ag (Bd AO) (Aa (Ab 0) (Aa (mC (.glo "NoText")) (Ad)))) (Ad)))))))) (Ak (Aw 1 (Ah AL (Ab 1) (Ba (Aa (Ag (Bd AO) (Aa (Ab 0) (Aa (mC (.glo "NoRow")) (Ad)))) (Aa (Ag (Bd AO) (Aa (Ab 0) (Aa (mC (.glo "TooMany")) (Ad)))) (Ad)))))) (Ak (Bh (Cm (BS (BR (Ag (Bd AO) (Aa (Ab 0) (Aa (mC (.ty "ValueError")) (Ad)))))) (Bc (Ah BC (IG Df GQ (Ab 1) (mC (.bl true))) (mC (.int 1))))) (Av (mC (.str "! other"))) (Bp)) (Ak (Bh (BR (Ah AC (Ab 1) (mC (.int 9)))) Qf Bp) (Ak (Aw 2 (Ba (Aa (mC (.str "board")) (Aa (mC (.str "line")) (Aa (mC (.str "switching")) (Aa (mC (.str "number")) (Aa (mC (.str "unlike")) (Aa (mC (.str "net")) (Aa (mC (.str "place")) (Aa (mC (.str "text")) (Aa (mC (.str "row")) (Ad)))))))))))) (Av (Ah AL (mC (.str "! ")) (Ah AC (Ab 2) (IG Df GR (Ab 1) (mC (.bl true)))))))))))
abbrev G5:Stmt:=A6 50
theorem sc__law_switched:AY ["_law_board_here","_law_rows","_law_columns","_law_found","_law_number","_law_row","_law_line","_law_place","_law_light"] ["_law_board_here","_law_rows","_law_columns"] (defScope G5):=⟨rfl,rfl,rfl,by decide +kernel,rfl,by decide +kernel,by decide +kernel⟩
noncomputable abbrev OK:MS:=Ak (Aw 3 (Ba (Ad))) (Ak (BZ (E6 (Aa (Ab 0) (Ad))) (CD 4 5) (Ak (Aw 6 (Ba (Ad))) (Ak (BZ (E6 (Aa (Ab 5) (Ad))) (CD 7 8) (Dp (E1 (Ab 6) (Ah Ek (Ah AL (Ah AL (Ab 8) (Ag (An GG) (Aa (Ah (EY false) (Ab 4) (Ab 1)) (Ad)))) (Ag (An GG) (Aa (Ah (EY false) (Ab 7) (Ab 2)) (Ad)))) (mC (.int 2)))))) (Dp (E1 (Ab 3) (Ag (An BJ) (Aa (Ab 6) (Ad)))))))) (Av (Ag (An BJ) (Aa (Ab 3) (Ad)))))
abbrev G6:Stmt:=A6 51
theorem sc__law_ones:AY ["_law_found","_law_number"] [] (defScope G6):=⟨rfl,rfl,rfl,by decide +kernel,rfl,by decide +kernel,by decide +kernel⟩
noncomputable abbrev OL:MS:=Ak (Aw 0 (Ba (Aa (mC (.int 0)) (Ad)))) (Ak (BZ (JA (Aa (mC (.int 1)) (Aa (mC (.int 256)) (Ad)))) (A5 1) (Dp (E1 (Ab 0) (Ah AL (Ah AC (Ab 0) (Ah Jv (Ab 1) (mC (.int 2)))) (Ah Ek (Ab 1) (mC (.int 2))))))) (Av (Ab 0)))
abbrev G7:Stmt:=A6 53
theorem Z3:AY ["_law_thing","_law_size"] ["_law_thing","_law_size"] (defScope G7):=⟨rfl,rfl,rfl,by decide +kernel,rfl,by decide +kernel,by decide +kernel⟩
noncomputable abbrev OM:MS:=Ak (Bh (BS (BR (Ag (Bd AO) (Aa (Ab 0) (Aa (mC (.ty "tuple")) (Ad)))))) (Av (mC (.bl false))) (Bp)) (Ak (Bh (Bc (Ah BC (AX [none,some 1] (Bq (Ab 0)) (A5 0) (Cm (BS (BR (Ag (Bd AO) (Aa (Ab 0) (Aa (mC (.ty "int")) (Ad)))))) (Cm (BR (Ag (Bd AO) (Aa (Ab 0) (Aa (mC (.ty "bool")) (Ad))))) (BS (Bc (Fw Ia H0 (mC (.int 0)) (Ab 0) (Ab 1)))))) (Ab 0)) (Ba (Ad)))) (Av (mC (.bl false))) (Bp)) (Av (Ah CH (Ag (An listOfD) (Aa (Ab 0) (Ad))) (L6 (Ab 0)))))
abbrev G8:Stmt:=A6 15
theorem Z4:AY ["thing","least","most"] ["thing","least","most"] (defScope G8):=⟨rfl,rfl,rfl,by decide +kernel,rfl,by decide +kernel,by decide +kernel⟩
noncomputable abbrev L9 (B1:List D→HD→Out D):MS:=Av (F0 (Ag B1 (Aa (Ab 0) (Ad))) (Fw Ia Ia (Ab 1) (Ab 0) (Ab 2)))
abbrev G9:Stmt:=A6 24
theorem sc_is_lot:AY ["thing","size","last","number"] ["thing","size"] (defScope G9):=⟨rfl,rfl,rfl,by decide +kernel,rfl,by decide +kernel,by decide +kernel⟩
noncomputable abbrev ON (B1:List D→HD→Out D):MS:=Ak (Bh (BS (BR (Ag (Bd AO) (Aa (Ab 0) (Aa (mC (.ty "tuple")) (Ad)))))) (Av (mC (.bl false))) (Bp)) (Ak (Aw 2 (Ik (mC (.int 1)))) (Ak (BZ (Bq (Ab 0)) (A5 3) (Ak (Bh (Cm (BS (BR (Ag B1 (Aa (Ab 3) (Ad))))) (BS (Bc (Fw H0 H0 (Ab 2) (Ab 3) (Ab 1))))) (Av (mC (.bl false))) (Bp)) (Aw 2 (Ab 3)))) (Av (mC (.bl true)))))
abbrev Ha:Stmt:=A6 41
theorem sc__law_box:AY ["_law_script","_law_k","_law_here","_law_number","_law_j"] ["_law_script","_law_k"] (defScope Ha):=⟨rfl,rfl,rfl,by decide +kernel,rfl,by decide +kernel,by decide +kernel⟩
noncomputable abbrev OO (Fe:List D→HD→Out D) (Ff:List D→HD→Out D):MS:=Ak (Aw 2 (Ag Fe (Aa (Ab 0) (Aa (Ab 1) (Ad))))) (Ak (Bh (Bc (Ah CH (Ah Ek (Ab 2) (mC (.int 2))) (mC (.int 0)))) (Av (Ba (Aa (Ah Jv (Ab 2) (mC (.int 2))) (Ad)))) (Bp)) (Ak (Aw 3 (mC (.int 0))) (Ak (BZ (Dq (Aa (mC (.int 24)) (Ad))) (A5 4) (Aw 3 (Ah AL (Ah Cf (Ab 3) (mC (.int 2147483647))) (Ag Ff (Aa (Ab 2) (Aa (Ab 4) (Ad))))))) (Av (Ba (Aa (Ab 3) (Ad)))))))
abbrev Hb:Stmt:=A6 43
theorem sc__law_wide_box:AY ["_law_box_here","_law_number","_law_many","_law_j"] ["_law_box_here"] (defScope Hb):=⟨rfl,rfl,rfl,by decide +kernel,rfl,by decide +kernel,by decide +kernel⟩
noncomputable abbrev OP (AD:List D→HD→Out D):MS:=Ak (Ic 1 2 (Aa (Ag AD (Aa (Ab 0) (Aa (mC (.int 2147483647)) (Ad)))) (Aa (mC (.int 0)) (Ad)))) (Ak (BZ (Dq (Aa (mC (.int 24)) (Ad))) (A5 3) (Ak (Aw 1 (Ah Ek (Ah AL (Ah AL (Ah Cf (Ab 1) (mC (.int 48271))) (mC (.int 11))) (Ab 3)) (mC (.int 2147483647)))) (Aw 2 (Ah AL (Ah Cf (Ab 2) (mC (.int 2147483647))) (Ab 1))))) (Av (Ba (Aa (Ab 2) (Ad)))))
abbrev Hc:Stmt:=A6 47
theorem sc__law_no_board:AY ["_law_box_here","_law_board_here","_law_at","_law_place","_law_odd","_law_row","_law_bent","_law_some"] ["_law_box_here","_law_board_here"] (defScope Hc):=⟨rfl,rfl,rfl,by decide +kernel,rfl,by decide +kernel,by decide +kernel⟩
noncomputable abbrev OQ (AD:List D→HD→Out D):MS:=Ak (F8 (GS [2,3]) (AW (Aa (Ag AD (Aa (Ab 0) (Aa (Ag (An Bn) (Aa (Ab 1) (Ad))) (Ad)))) (Aa (Ag AD (Aa (Ab 0) (Aa (Ag (An Bn) (Aa (Ah AC (Ab 1) (mC (.int 0))) (Ad))) (Ad)))) (Ad))))) (Ak (Aw 4 (Ah AC (Ba (Aa (mC (.int 2)) (Aa (Ik (mC (.int 1))) (Aa (mC (.bl true)) (Aa (mC (.bl false)) (Aa (mC .non) (Aa (mC (.str "0")) (Aa (AW (Aa (mC (.int 0)) (Ad))) (Aa (Ah Jr (mC (.int 10)) (mC (.int 29))) (Aa (Ba (Aa (mC (.int 0)) (Ad))) (Aa (mC .edic) (Ad)))))))))))) (Ag AD (Aa (Ab 0) (Aa (mC (.int 10)) (Ad)))))) (Ak (Aw 5 (Ah AC (Ab 1) (Ab 2))) (Ak (Aw 6 (Ah AL (Ah AL (Fb (Ab 5) (FG) (E5 (Ab 3))) (AW (Aa (Ab 4) (Ad)))) (Fb (Ab 5) (E5 (Ah AL (Ab 3) (mC (.int 1)))) (FG)))) (Ak (Aw 7 (Ba (Aa (Ab 6) (Aa (Ab 6) (Aa (Ab 6) (Aa (Ah AL (Ab 5) (Ah Cf (AW (Aa (mC (.int 0)) (Ad))) (mC (.int 8)))) (Aa (AW (Ad)) (Aa (Ag (An listOfD) (Aa (Ab 5) (Ad))) (Aa (mC .non) (Aa (mC (.int 1)) (Ad))))))))))) (Ak (Bh (Bc (Ah KV (Ag (An Bn) (Aa (Ab 1) (Ad))) (mC (.int 1)))) (Aw 7 (Ah AL (Ab 7) (Ba (Aa (Fb (Ab 5) (FG) (E5 (Ik (mC (.int 1))))) (Aa (Ah AL (Ab 5) (AW (Aa (mC (.int 0)) (Ad)))) (Ad)))))) (Bp)) (Ak (Aw 7 (AX [none,some 1,some 2] (Bq (Ab 7)) (A5 0) (Br) (Ah AL (Ah AL (Fb (Ab 1) (FG) (E5 (Ab 2))) (AW (Aa (Ab 0) (Ad)))) (Fb (Ab 1) (E5 (Ah AL (Ab 2) (mC (.int 1)))) (FG))))) (Ak (Aw 7 (Ah AL (Ab 7) (Ba (Aa (Ag (An listOfD) (Aa (Ab 1) (Ad))) (Aa (AW (Aa (Ab 1) (Ad))) (Aa (Ah Cf (AW (Aa (Ah AC (Ab 1) (mC (.int 0))) (Ad))) (mC (.int 9))) (Aa (Ah AL (Ab 1) (AW (Aa (AW (Ad)) (Ad)))) (Aa (Ah AC (Ab 1) (mC (.int 0))) (Aa (mC .non) (Aa (AW (Ad)) (Aa (mC (.int 0)) (Aa (mC (.str "")) (Aa (mC .edic) (Ad)))))))))))))) (Av (Ah AC (Ab 7) (Ag AD (Aa (Ab 0) (Aa (Ag (An Bn) (Aa (Ab 7) (Ad))) (Ad)))))))))))))
abbrev Hd:Stmt:=A6 48
theorem Z5:AY ["_law_box_here","_law_size"] ["_law_box_here","_law_size"] (defScope Hd):=⟨rfl,rfl,rfl,by decide +kernel,rfl,by decide +kernel,by decide +kernel⟩
noncomputable abbrev OR (AD:List D→HD→Out D):MS:=Av (Ag (An BJ) (Aa (AX [none,some 0] (Dq (Aa (Ab 1) (Ad))) (A5 0) (Bc (Ah CH (Ag AD (Aa (Ab 1) (Aa (mC (.int 2)) (Ad)))) (mC (.int 1)))) (Ab 0)) (Ad)))
abbrev He:Stmt:=A6 49
theorem sc__law_no_lot:AY ["_law_box_here","_law_size","_law_low","_law_odd","_law_some"] ["_law_box_here","_law_size"] (defScope He):=⟨rfl,rfl,rfl,by decide +kernel,rfl,by decide +kernel,by decide +kernel⟩
noncomputable abbrev OT (AD:List D→HD→Out D):MS:=Ak (Aw 2 (Ag AD (Aa (Ab 0) (Aa (Ab 1) (Ad))))) (Ak (Aw 3 (Ah AC (Ba (Aa (Ab 1) (Aa (Ik (mC (.int 1))) (Aa (mC (.bl true)) (Aa (mC .non) (Aa (mC (.str "0")) (Aa (AW (Aa (mC (.int 0)) (Ad))) (Aa (Ah Jr (mC (.int 10)) (mC (.int 29))) (Aa (mC (.bl false)) (Aa (Ba (Aa (mC (.int 0)) (Ad))) (Aa (mC .edic) (Ad)))))))))))) (Ag AD (Aa (Ab 0) (Aa (mC (.int 10)) (Ad)))))) (Ak (Aw 4 (Ba (Aa (AW (Aa (Ab 3) (Ad))) (Aa (AW (Aa (Ab 2) (Aa (Ab 2) (Ad)))) (Aa (AW (Aa (Ab 2) (Aa (Ab 3) (Ad)))) (Aa (Ba (Aa (Ab 2) (Ad))) (Aa (mC .non) (Aa (Ab 2) (Aa (mC (.str "")) (Aa (Jn (Bc (Ah KV (Ab 1) (mC (.int 1)))) (AW (Aa (Ah Fx (Ab 1) (mC (.int 1))) (Aa (mC (.int 0)) (Ad)))) (AW (Aa (mC (.int 0)) (Aa (mC (.int 0)) (Ad))))) (Aa (mC .edic) (Aa (AW (Aa (Ab 3) (Aa (Ab 2) (Ad)))) (Ad))))))))))))) (Ak (Aw 4 (Ah AL (Ab 4) (Ba (Aa (Ah AL (JV (Ab 1)) (AW (Aa (Ab 3) (Ad)))) (Aa (Ah AL (JV (Ab 1)) (AW (Aa (Ah Fx (Ab 1) (mC (.int 1))) (Ad)))) (Ad)))))) (Av (Ah AC (Ab 4) (Ag AD (Aa (Ab 0) (Aa (mC (.int 12)) (Ad)))))))))
abbrev Hf:Stmt:=A6 52
theorem sc__law_least:AY ["_law_board_here","_law_ones_here","_law_wide","_law_masks","_law_found","_law_columns","_law_counts"] ["_law_board_here"] (defScope Hf):=⟨rfl,rfl,rfl,by decide +kernel,rfl,by decide +kernel,by decide +kernel⟩
noncomputable abbrev Ma (Eb:List D→HD→Out D):MS:=Ak (F8 (GS [1,2]) (AW (Aa (Ag Eb (Ad)) (Aa (Ag (An Bn) (Aa (Ah AC (Ab 0) (mC (.int 0))) (Ad))) (Ad))))) (Ak (Aw 3 (AX [none] (Bq (Ab 0)) (A5 0) (Br) (Ag (An CU) (Aa (AX [none,none] (E6 (Aa (Ab 0) (Ad))) (CD 0 1) (Br) (Ah F5 (Ab 1) (Ab 0))) (Ad))))) (Ak (Aw 4 (Ba (Ad))) (Ak (BZ (Dq (Aa (Ah F5 (mC (.int 1)) (Ab 2)) (Ad))) (A5 5) (Ak (Aw 6 (AX [none,some 1,some 5] (Bq (Ab 3)) (A5 0) (Br) (Ah AC (Ab 1) (Ah Ov (Ab 0) (Ab 2))))) (Dp (E1 (Ab 4) (Ag (An CU) (Aa (AX [none,some 2] (Bq (Ab 6)) (A5 0) (Br) (Ag (Bd F7) (Aa (Ab 0) (Aa (Ah Fx (Ab 1) (Ab 0)) (Ad))))) (Ad))))))) (Av (Ag (An (FI FH)) (Aa (Ab 4) (Ad)))))))
abbrev Hg:Stmt:=A6 54
theorem Z6:AY ["_law_board_here","_law_switching"] ["_law_board_here","_law_switching"] (defScope Hg):=⟨rfl,rfl,rfl,by decide +kernel,rfl,by decide +kernel,by decide +kernel⟩
noncomputable abbrev OU (Fg:List D→HD→Out D):MS:=Av (Ag (An CU) (Aa (AX [none] (Bq (Ag Fg (Aa (Ab 0) (Aa (Ah AC (Ab 1) (mC (.int 0))) (Aa (Ah AC (Ab 1) (mC (.int 1))) (Ad)))))) (A5 0) (Br) (Ag (An CU) (Aa (Ab 0) (Ad)))) (Ad)))
abbrev Hh:Stmt:=A6 16
theorem Z7:AY ["thing"] ["thing"] (defScope Hh):=⟨rfl,rfl,rfl,by decide +kernel,rfl,by decide +kernel,by decide +kernel⟩
noncomputable abbrev OV (ED:List D→HD→Out D):MS:=Av (Ag ED (Aa (Ab 0) (Aa (mC (.int 0)) (Aa (mC (.int 1)) (Ad)))))
abbrev Hi:Stmt:=A6 46
theorem sc__law_board:AY ["_law_box_here","_law_high","_law_wide","_law_way","_law_digits","_law_dense","_law_rows","_law_number"] ["_law_box_here","_law_high","_law_wide"] (defScope Hi):=⟨rfl,rfl,rfl,by decide +kernel,rfl,by decide +kernel,by decide +kernel⟩
noncomputable abbrev OW (AD:List D→HD→Out D) (Fh:List D→HD→Out D):MS:=Ak (Aw 3 (Ag AD (Aa (Ab 0) (Aa (mC (.int 5)) (Ad))))) (Ak (Aw 4 (Ag Fh (Aa (Ab 0) (Ad)))) (Ak (Aw 5 (Ah AC (Ba (Aa (mC (.int 3)) (Aa (mC (.int 1)) (Aa (mC (.int 5)) (Aa (mC (.int 3)) (Aa (mC (.int 2)) (Ad))))))) (Ab 3))) (Ak (Aw 6 (Ba (Ad))) (Ak (BZ (Dq (Aa (Ab 1) (Ad))) (A5 7) (Dp (E1 (Ab 6) (Ag (An BJ) (Aa (AX [none,some 4,some 5] (Dq (Aa (Ab 2) (Ad))) (A5 0) (Br) (Ag (An GG) (Aa (Ah H0 (Ag AD (Aa (Ab 1) (Aa (mC (.int 6)) (Ad)))) (Ab 2)) (Ad)))) (Ad)))))) (Ak (Bh (Bc (Ah CH (Ab 3) (mC (.int 3)))) (Aw 6 (Ah Cf (Ba (Aa (Ah AC (Ab 6) (mC (.int 0))) (Ad))) (Ab 1))) (Bp)) (Av (Ag (An BJ) (Aa (Ab 6) (Ad)))))))))
abbrev Hj:Stmt:=A6 18
theorem Z8:AY ["thing"] ["thing"] (defScope Hj):=⟨rfl,rfl,rfl,by decide +kernel,rfl,by decide +kernel,by decide +kernel⟩
noncomputable abbrev OX (CK:List D→HD→Out D) (Fi:List D→HD→Out D):MS:=Av (F0 (Ag CK (Aa (Ab 0) (Ad))) (Ag (An Eo) (Aa (AX [none] (Bq (Ab 0)) (A5 0) (Br) (Ag Fi (Aa (Ab 0) (Ad)))) (Ad))))
abbrev Hk:Stmt:=A6 19
theorem Z9:AY ["thing"] ["thing"] (defScope Hk):=⟨rfl,rfl,rfl,by decide +kernel,rfl,by decide +kernel,by decide +kernel⟩
noncomputable abbrev OY (CK:List D→HD→Out D) (Fj:List D→HD→Out D):MS:=Ak (Bh (Cm (BS (BR (Ag CK (Aa (Ab 0) (Ad))))) (BS (BR (Ag (An Eo) (Aa (AX [none] (Bq (Ab 0)) (A5 0) (Br) (Ag Fj (Aa (Ab 0) (Ad)))) (Ad)))))) (Av (mC (.bl false))) (Bp)) (Av (Ag (An Eo) (Aa (AX [none,some 0] (Bq (Ab 0)) (A5 0) (Br) (Ah CH (Ag (An Bn) (Aa (Ab 0) (Ad))) (Ag (An Bn) (Aa (Ah AC (Ab 1) (mC (.int 0))) (Ad))))) (Ad))))
abbrev Hl:Stmt:=A6 20
theorem Zaa:AY ["thing"] ["thing"] (defScope Hl):=⟨rfl,rfl,rfl,by decide +kernel,rfl,by decide +kernel,by decide +kernel⟩
noncomputable abbrev Mb (EJ:List D→HD→Out D):MS:=Bh (BS (BR (Ag EJ (Aa (Ab 0) (Ad))))) (Iv "NoBoard" (Aa (mC (.str "this is no board")) (Ad))) (Bp)
abbrev Hm:Stmt:=A6 22
theorem Zab:AY ["board"] ["board"] (defScope Hm):=⟨rfl,rfl,rfl,by decide +kernel,rfl,by decide +kernel,by decide +kernel⟩
noncomputable abbrev OZ (Bk:List D→HD→Out D):MS:=Ak (Dp (Ag Bk (Aa (Ab 0) (Ad)))) (Av (Ag (An BJ) (Aa (AX [none] (Bq (Ab 0)) (A5 0) (Br) (Ag (An CU) (Aa (Ab 0) (Ad)))) (Ad))))
abbrev Hn:Stmt:=A6 25
theorem Zac:AY ["board","thing"] ["board","thing"] (defScope Hn):=⟨rfl,rfl,rfl,by decide +kernel,rfl,by decide +kernel,by decide +kernel⟩
noncomputable abbrev Mc (Bk:List D→HD→Out D) (Ec:List D→HD→Out D):MS:=Ak (Dp (Ag Bk (Aa (Ab 0) (Ad)))) (Ak (Bh (Cm (BS (BR (Ag (Bd AO) (Aa (Ab 1) (Aa (mC (.ty "tuple")) (Ad)))))) (Bc (Ah BC (Ag (An Bn) (Aa (Ab 1) (Ad))) (mC (.int 2))))) (Av (mC (.bl false))) (Bp)) (Av (F0 (Ag Ec (Aa (Ah AC (Ab 1) (mC (.int 0))) (Aa (Ag (An Bn) (Aa (Ab 0) (Ad))) (Ad)))) (Ag Ec (Aa (Ah AC (Ab 1) (mC (.int 1))) (Aa (Ag (An Bn) (Aa (Ah AC (Ab 0) (mC (.int 0))) (Ad))) (Ad)))))))
abbrev Ho:Stmt:=A6 29
theorem Zad:AY ["board"] ["board"] (defScope Ho):=⟨rfl,rfl,rfl,by decide +kernel,rfl,by decide +kernel,by decide +kernel⟩
noncomputable abbrev Md (Bk:List D→HD→Out D):MS:=Ak (Dp (Ag Bk (Aa (Ab 0) (Ad)))) (Av (Ag (An BJ) (Aa (AX [none,some 0] (Dq (Aa (Ag (An Bn) (Aa (Ah AC (Ab 0) (mC (.int 0))) (Ad))) (Ad))) (A5 0) (Br) (Ag (An BJ) (Aa (AX [none,some 0] (Bq (Ab 1)) (A5 0) (Br) (Ah AC (Ab 0) (Ab 1))) (Ad)))) (Ad))))
abbrev Hq:Stmt:=A6 21
theorem Zae:AY ["board"] ["board"] (defScope Hq):=⟨rfl,rfl,rfl,by decide +kernel,rfl,by decide +kernel,by decide +kernel⟩
noncomputable abbrev O0 (Cu:List D→HD→Out D):MS:=Av (Ag (An CU) (Aa (Ag Cu (Aa (Ab 0) (Ad))) (Ad)))
abbrev Hr:Stmt:=A6 23
theorem Zaf:AY ["board"] ["board"] (defScope Hr):=⟨rfl,rfl,rfl,by decide +kernel,rfl,by decide +kernel,by decide +kernel⟩
noncomputable abbrev Me (Ed:List D→HD→Out D) (Cu:List D→HD→Out D):MS:=Av (Ag Cu (Aa (Ag Ed (Aa (Ab 0) (Ad))) (Ad)))
abbrev Hs:Stmt:=A6 26
theorem Zag:AY ["board","thing"] ["board","thing"] (defScope Hs):=⟨rfl,rfl,rfl,by decide +kernel,rfl,by decide +kernel,by decide +kernel⟩
noncomputable abbrev J6 (Dz:List D→HD→Out D):MS:=Bh (BS (BR (Ag Dz (Aa (Ab 0) (Aa (Ab 1) (Ad)))))) (Iv "NoSwitching" (Aa (mC (.str "this is no switching of the board")) (Ad))) (Bp)
abbrev Ht:Stmt:=A6 28
theorem sc_switched:AY ["board","switching","rows","columns"] ["board","switching"] (defScope Ht):=⟨rfl,rfl,rfl,by decide +kernel,rfl,by decide +kernel,by decide +kernel⟩
noncomputable abbrev Mf (DA:List D→HD→Out D) (Ez:List D→HD→Out D):MS:=Ak (Dp (Ag DA (Aa (Ab 0) (Aa (Ab 1) (Ad))))) (Ak (F8 (CD 2 3) (Ab 1)) (Av (Ag (An BJ) (Aa (AX [none,none,some 3,some 2] (E6 (Aa (Ab 0) (Ad))) (CD 0 1) (Br) (Ag Ez (Aa (Ab 1) (Aa (Ab 2) (Aa (Ah (EY false) (Ab 0) (Ab 3)) (Ad)))))) (Ad)))))
abbrev Hu:Stmt:=A6 32
theorem sc_lots_with_counts:AY ["board","found","number"] ["board"] (defScope Hu):=⟨rfl,rfl,rfl,by decide +kernel,rfl,by decide +kernel,by decide +kernel⟩
noncomputable abbrev Mg (Ee:List D→HD→Out D) (EA:List D→HD→Out D):MS:=Ak (Aw 1 (Ba (Aa (AW (Aa (AW (Ad)) (Aa (Ag Ee (Aa (Ab 0) (Ad))) (Ad)))) (Ad)))) (Ak (BZ (JA (Aa (mC (.int 1)) (Aa (Ag (An Bn) (Aa (Ab 0) (Ad))) (Ad)))) (A5 2) (Aw 1 (Ah AL (Ab 1) (AX [none,none,some 2,some 0] (Bq (Ab 1)) (CD 0 1) (Br) (AW (Aa (Ah AL (Ab 0) (AW (Aa (Ab 2) (Ad)))) (Aa (Ag EA (Aa (Ab 1) (Aa (Ah AC (Ab 3) (Ab 2)) (Ad)))) (Ad)))))))) (Av (Ab 1)))
abbrev Hv:Stmt:=A6 35
theorem Zah:AY ["board"] ["board"] (defScope Hv):=⟨rfl,rfl,rfl,by decide +kernel,rfl,by decide +kernel,by decide +kernel⟩
noncomputable abbrev Mh (BI:List D→HD→Out D) (Cj:List D→HD→Out D):MS:=Av (Ag (An (FI FH)) (Aa (AX [none,none,some 0] (Bq (Ag BI (Aa (Ab 0) (Ad)))) (CD 0 1) (Br) (Ag Cj (Aa (Ab 1) (Aa (Ag (An Bn) (Aa (Ab 2) (Ad))) (Ad))))) (Ad)))
abbrev Hw:Stmt:=A6 36
theorem sc_best_switching:AY ["board","fewest","high"] ["board"] (defScope Hw):=⟨rfl,rfl,rfl,by decide +kernel,rfl,by decide +kernel,by decide +kernel⟩
noncomputable abbrev Mi (Bs:List D→HD→Out D) (BI:List D→HD→Out D) (Cj:List D→HD→Out D) (EB:List D→HD→Out D):MS:=Ak (Aw 1 (Ag Bs (Aa (Ab 0) (Ad)))) (Ak (Aw 2 (Ag (An Bn) (Aa (Ab 0) (Ad)))) (Av (Ah AC (AX [none,none,some 2,some 1] (Bq (Ag BI (Aa (Ab 0) (Ad)))) (CD 0 1) (Bc (Ah CH (Ag Cj (Aa (Ab 1) (Aa (Ab 2) (Ad)))) (Ab 3))) (AW (Aa (Ab 0) (Aa (Ag EB (Aa (Ab 1) (Aa (Ab 2) (Ad)))) (Ad))))) (mC (.int 0)))))
abbrev Hx:Stmt:=A6 37
theorem Zai:AY ["board","switching"] ["board","switching"] (defScope Hx):=⟨rfl,rfl,rfl,by decide +kernel,rfl,by decide +kernel,by decide +kernel⟩
noncomputable abbrev Mj (Du:List D→HD→Out D) (EK:List D→HD→Out D) (Bs:List D→HD→Out D):MS:=Av (Ah CH (Ag EK (Aa (Ag Du (Aa (Ab 0) (Aa (Ab 1) (Ad)))) (Ad))) (Ag Bs (Aa (Ab 0) (Ad))))
abbrev s_law:Stmt:=A6 55
theorem sc_law:AY ["_law_script","_law_k","_law_box_here","_law_high","_law_wide","_law_board_here","_law_due","_law_found","_law_turn","_law_some","_law_bad","_law_none","_law_thing","_law_call"] ["_law_script"] (defScope s_law):=⟨rfl,rfl,rfl,by decide +kernel,rfl,by decide +kernel,by decide +kernel⟩
noncomputable abbrev Mk (EF:List D→HD→Out D) (AD:List D→HD→Out D) (EI:List D→HD→Out D) (EH:List D→HD→Out D) (Bs:List D→HD→Out D) (Dc:List D→HD→Out D) (DO:List D→HD→Out D) (DR:List D→HD→Out D) (DP:List D→HD→Out D) (CL:List D→HD→Out D) (DQ:List D→HD→Out D) (EG:List D→HD→Out D) (Ct:List D→HD→Out D):MS:=Ak (BZ (Dq (Aa (Ag (Bd Jw) (Aa (mC (.int 1)) (Aa (Ag (Bd F7) (Aa (Ag (An Bn) (Aa (Ab 0) (Ad))) (Aa (mC (.int 4)) (Ad)))) (Ad)))) (Ad))) (A5 1) (Ak (Aw 2 (Ag EF (Aa (Ab 0) (Aa (Ab 1) (Ad))))) (Ak (Ic 3 4 (Aa (Ah AL (mC (.int 1)) (Ag AD (Aa (Ab 2) (Aa (mC (.int 8)) (Ad))))) (Aa (Ah AL (mC (.int 1)) (Ag AD (Aa (Ab 2) (Aa (mC (.int 8)) (Ad))))) (Ad)))) (Ak (Aw 5 (Ag EI (Aa (Ab 2) (Aa (Ab 3) (Aa (Ab 4) (Ad)))))) (Ak (Aw 6 (Ag EH (Aa (Ab 5) (Ad)))) (Ak (Bh (Bc (Ah BC (Ag (An Ds) (Aa (Ag Bs (Aa (Ab 5) (Ad))) (Ad))) (Ag (An Ds) (Aa (Ab 6) (Ad))))) (Av (mC (.bl false))) (Bp)) (Ak (Aw 7 (Ag Dc (Aa (Ab 5) (Ad)))) (Ak (Bh (Cm (BS (BR (Ag (Bd AO) (Aa (Ab 7) (Aa (mC (.ty "tuple")) (Ad)))))) (Cm (Bc (Ah BC (Ag (An Bn) (Aa (Ab 7) (Ad))) (mC (.int 2)))) (Bc (Ah BC (Ag Dc (Aa (Ab 5) (Ad))) (Ab 7))))) (Av (mC (.bl false))) (Bp)) (Ak (Bh (Cm (BS (BR (Ag DO (Aa (Ah AC (Ab 7) (mC (.int 0))) (Aa (Ab 3) (Ad)))))) (Cm (BS (BR (Ag DO (Aa (Ah AC (Ab 7) (mC (.int 1))) (Aa (Ab 4) (Ad)))))) (Bc (Ah BC (Ag DR (Aa (Ab 5) (Aa (Ab 7) (Ad)))) (Ab 6))))) (Av (mC (.bl false))) (Bp)) (Ak (BZ (Dq (Aa (mC (.int 4)) (Ad))) (A5 8) (Ak (Aw 9 (AW (Aa (Ag DP (Aa (Ab 2) (Aa (Ab 3) (Ad)))) (Aa (Ag DP (Aa (Ab 2) (Aa (Ab 4) (Ad)))) (Ad))))) (Bh (Bc (Ah BC (Ag (An Ds) (Aa (Ag CL (Aa (Ab 5) (Aa (Ab 9) (Ad)))) (Ad))) (Ag (An Ds) (Aa (Ah CH (Ag DR (Aa (Ab 5) (Aa (Ab 9) (Ad)))) (Ab 6)) (Ad))))) (Av (mC (.bl false))) (Bp)))) (Ak (Bh (Bc (Ah Js (Ag CL (Aa (Ab 5) (Aa (Ab 7) (Ad)))) (mC (.bl true)))) (Av (mC (.bl false))) (Bp)) (Ak (Aw 10 (Ba (Aa (AW (Aa (Ag DQ (Aa (Ab 2) (Aa (Ab 3) (Ad)))) (Aa (Ah AC (Ab 7) (mC (.int 1))) (Ad)))) (Aa (AW (Aa (Ah AC (Ab 7) (mC (.int 0))) (Aa (Ag DQ (Aa (Ab 2) (Aa (Ab 4) (Ad)))) (Ad)))) (Aa (mC .non) (Aa (Ba (Ad)) (Aa (Ah AC (Ab 7) (mC (.int 0))) (Ad)))))))) (Ak (Aw 11 (Ag EG (Aa (Ab 2) (Aa (Ab 5) (Ad))))) (Ak (BZ (Bq (Ab 10)) (A5 12) (Ak (Bh (Bc (Ah BC (DM [5,12] Ct (Ag CL (Aa (Ab 0) (Aa (Ab 1) (Ad))))) (mC (.str "! switching")))) (Av (mC (.bl false))) (Bp)) (Bh (Bc (Ah BC (DM [11,12] Ct (Ag CL (Aa (Ab 0) (Aa (Ab 1) (Ad))))) (mC (.str "! board")))) (Av (mC (.bl false))) (Bp)))) (BZ (Bq (Ba (Aa (mC (.glo "left_many")) (Aa (mC (.glo "best_switching")) (Ad))))) (A5 13) (Bh (Bc (Ah BC (DM [13,11] Ct (IP [("left_many",Bs),("best_switching",Dc)] (Ab 0) (Aa (Ab 1) (Ad)))) (mC (.str "! board")))) (Av (mC (.bl false))) (Bp))))))))))))))))) (Av (mC (.bl true)))
section
variable {P:Program} {w:World} {K:PySem.W.Frag} {mg:Str→Option Value} {base:Heap} (B:Bl mg) (et:etOk K=true)
include B et
theorem Zaj (f:Addr) (cdv:Value) (A:Around) (outer:List Env) (s:Shared) (H:Hp) (E:XK) (hr:Room 0 (A.deeper (envOfC "is_whole" (defScope GV) s.heap.objs.size f cdv))):
 AU (AI (As P w K) P w K mg base ["thing"] "is_whole" (defScope GV) f cdv A outer s H E) E (defBody GV) (OB):=
 Aq (AN (Jm (AJ (Ce et) rfl B.n_isinstance Ci (Ac (Ae (pv 0)) (Ac (EZ rfl B.n_int J3) (Af)))) (Jl (Wl (AJ (Ce et) rfl B.n_isinstance Ci (Ac (Ae (pv 0)) (Ac (EZ rfl B.n_bool SS) (Af))))))))
theorem Zak {t_MOST_LINES:Tok} (m_MOST_LINES:mg "MOST_LINES"=some (.int 8 t_MOST_LINES)) (f:Addr) (cdv:Value) (A:Around) (outer:List Env) (s:Shared) (H:Hp) (E:XK) (hr:Room 0 (A.deeper (envOfC "is_line_tuple" (defScope GW) s.heap.objs.size f cdv))):
 AU (AI (As P w K) P w K mg base ["thing"] "is_line_tuple" (defScope GW) f cdv A outer s H E) E (defBody GW) (OC):=
 Aq (AN (Jm (AJ (Ce et) rfl B.n_isinstance Ci (Ac (Ae (pv 0)) (Ac (EZ rfl B.n_tuple Cs) (Af)))) (Jl (P8 Jq Jq (Al) (AJ CC rfl B.n_len CJ (Ac (Ae (pv 0)) (Af))) (Wi rfl m_MOST_LINES)))))
theorem Zal (f:Addr) (cdv:Value) (A:Around) (outer:List Env) (s:Shared) (H:Hp) (E:XK) (hr:Room 0 (A.deeper (envOfC "row_switched" (defScope GX) s.heap.objs.size f cdv))):
 AU (AI (As P w K) P w K mg base ["row","columns","is_turned"] "row_switched" (defScope GX) f cdv A outer s H E) E (defBody GX) (OD):=
 Aq (AN (CB D3 rfl B.n_tuple Cs (Ac (Cb (Nc:=["number","light","columns","is_turned"]) (cs:=[none,none,some 1,some 2]) rfl (CSc.ok ⟨rfl,by decide +kernel,by kernel_rfl,by decide +kernel,rfl,by kernel_rfl⟩) (Iw rfl B.n_enumerate (Ac (Ae (pv 0)) (Af))) (Gc rfl rfl) (fun C D cells fp s₀ H₀ pins=>⟨D7 rfl (AR (i:=0) (show (["number","light","columns","is_turned"]:List Str).Nodup from by decide +kernel) rfl (by first|exact .inl rfl|exact .inr rfl) (by first|exact .inl rfl|exact .inr rfl)) (AR (i:=1) (show (["number","light","columns","is_turned"]:List Str).Nodup from by decide +kernel) rfl (by first|exact .inl rfl|exact .inr rfl) (by first|exact .inl rfl|exact .inr rfl)),Co,P6 (B5 (FL hr.units) (Fv KZ (Ae (pv 0)) (Ae (pv 2)) (by with_unfolding_all rfl)) (Ae (pv 3)) (BF _)) (Ae (pv 1)) (Ay HZ (Al) (Ae (pv 1)))⟩)) (Af))))
theorem Zam (f:Addr) (cdv:Value) (A:Around) (outer:List Env) (s:Shared) (H:Hp) (E:XK) (hr:Room 0 (A.deeper (envOfC "counts_with_row" (defScope GY) s.heap.objs.size f cdv))):
 AU (AI (As P w K) P w K mg base ["counts","row"] "counts_with_row" (defScope GY) f cdv A outer s H E) E (defBody GY) (OE):=
 Aq (AN (CB D3 rfl B.n_tuple Cs (Ac (Cb (Nc:=["count","light"]) (cs:=[none,none]) rfl (CSc.ok ⟨rfl,by decide +kernel,by kernel_rfl,by decide +kernel,rfl,by kernel_rfl⟩) (XA rfl B.n_zip (Ac (Ae (pv 0)) (Ac (Ae (pv 1)) (Af)))) (Gc rfl rfl) (fun C D cells fp s₀ H₀ pins=>⟨D7 rfl (AR (i:=0) (show (["count","light"]:List Str).Nodup from by decide +kernel) rfl (by first|exact .inl rfl|exact .inr rfl) (by first|exact .inl rfl|exact .inr rfl)) (AR (i:=1) (show (["count","light"]:List Str).Nodup from by decide +kernel) rfl (by first|exact .inl rfl|exact .inr rfl) (by first|exact .inl rfl|exact .inr rfl)),Co,Ay HZ (Ay Bm (Ae (pv 0)) (Al)) (Ay DN (Al) (Ae (pv 1)))⟩)) (Af))))
theorem Zan (f:Addr) (cdv:Value) (A:Around) (outer:List Env) (s:Shared) (H:Hp) (E:XK) (hr:Room 0 (A.deeper (envOfC "fewest_lit" (defScope GZ) s.heap.objs.size f cdv))):
 AU (AI (As P w K) P w K mg base ["counts","high"] "fewest_lit" (defScope GZ) f cdv A outer s H E) E (defBody GZ) (OF):=
 Aq (AN (AJ (GI rfl) rfl B.n_sum GU (Ac (Cb (Nc:=["count","high"]) (cs:=[none,some 1]) rfl (CSc.ok ⟨rfl,by decide +kernel,by kernel_rfl,by decide +kernel,rfl,by kernel_rfl⟩) (CF (Ae (pv 0))) (Dr rfl) (fun C D cells fp s₀ H₀ pins=>⟨AR (i:=0) (show (["count","high"]:List Str).Nodup from by decide +kernel) rfl (by first|exact .inl rfl|exact .inr rfl) (by first|exact .inl rfl|exact .inr rfl),Co,AJ (Nk rfl) rfl B.n_min J4 (Ac (Ae (pv 0)) (Ac (Ay HZ (Ae (pv 1)) (Ae (pv 0))) (Af)))⟩)) (Af))))
theorem Zao (f:Addr) (cdv:Value) (A:Around) (outer:List Env) (s:Shared) (H:Hp) (E:XK) (hr:Room 0 (A.deeper (envOfC "fuller_columns" (defScope G0) s.heap.objs.size f cdv))):
 AU (AI (As P w K) P w K mg base ["counts","high"] "fuller_columns" (defScope G0) f cdv A outer s H E) E (defBody G0) (OG):=
 Aq (AN (CB D3 rfl B.n_tuple Cs (Ac (Cb (Nc:=["number","count","high"]) (cs:=[none,none,some 1]) rfl (CSc.ok ⟨rfl,by decide +kernel,by kernel_rfl,by decide +kernel,rfl,by kernel_rfl⟩) (Iw rfl B.n_enumerate (Ac (Ae (pv 0)) (Af))) (Gc rfl rfl) (fun C D cells fp s₀ H₀ pins=>⟨D7 rfl (AR (i:=0) (show (["number","count","high"]:List Str).Nodup from by decide +kernel) rfl (by first|exact .inl rfl|exact .inr rfl) (by first|exact .inl rfl|exact .inr rfl)) (AR (i:=1) (show (["number","count","high"]:List Str).Nodup from by decide +kernel) rfl (by first|exact .inl rfl|exact .inr rfl) (by first|exact .inl rfl|exact .inr rfl)),K6 (B5 Ng (Ay DN (Al) (Ae (pv 1))) (Ae (pv 2)) (BF _)),Ae (pv 0)⟩)) (Af))))
theorem Zap (f:Addr) (cdv:Value) (A:Around) (outer:List Env) (s:Shared) (H:Hp) (E:XK) (hr:Room 0 (A.deeper (envOfC "_law_cell" (defScope G1) s.heap.objs.size f cdv))):
 AU (AI (As P w K) P w K mg base ["_law_script","_law_k"] "_law_cell" (defScope G1) f cdv A outer s H E) E (defBody G1) (L8):=
 Ap (BY (B5 Jp (Ae (pv 1)) (AJ CC rfl B.n_len CJ (Ac (Ae (pv 0)) (Af))) (BF _)) (Aq (AN (Bt (Ae (pv 0)) (Ae (pv 1)) (fun _ _=>rfl)))) (BX)) (Aq (AN (Ay Bm (Ay DN (Al) (Ae (pv 1))) (Al))))
theorem Zaq (f:Addr) (cdv:Value) (A:Around) (outer:List Env) (s:Shared) (H:Hp) (E:XK) (hr:Room 0 (A.deeper (envOfC "_law_mix" (defScope G2) s.heap.objs.size f cdv))):
 AU (AI (As P w K) P w K mg base ["_law_cell_here","_law_k","_law_number"] "_law_mix" (defScope G2) f cdv A outer s H E) E (defBody G2) (OH):=
 Ap (AZ (i:=2) sc__law_mix.nd rfl (by first|exact .inl rfl|exact .inr rfl) (Ay Bm (Ay DN (Ay Bm (Ae (pv 0)) (Al)) (Al)) (Ay DN (Al) (Ae (pv 1))))) (Ap (AZ (i:=2) sc__law_mix.nd rfl (by first|exact .inl rfl|exact .inr rfl) (Ay Bm (Ay Ib (Ay DN (Ae (pv 2)) (Ae (pv 2))) (Al)) (Ae (pv 1)))) (Aq (AN (Ay Ib (Ay DN (Ae (pv 2)) (Ay Bm (Ae (pv 2)) (Al))) (Al)))))
theorem Zar (f:Addr) (cdv:Value) (A:Around) (outer:List Env) (s:Shared) (H:Hp) (E:XK) (hr:Room 0 (A.deeper (envOfC "_law_take" (defScope G3) s.heap.objs.size f cdv))):
 AU (AI (As P w K) P w K mg base ["_law_box_here","_law_many","_law_left","_law_digit"] "_law_take" (defScope G3) f cdv A outer s H E) E (defBody G3) (OI):=
 Ap (K2 (AJ Ww rfl B.n_divmod ZS (Ac (Bt (Ae (pv 0)) (Al) (fun _ _=>rfl)) (Ac (Ae (pv 1)) (Af)))) (K1 (D7 rfl (AR (i:=2) (sc__law_take.nd) rfl (by first|exact .inl rfl|exact .inr rfl) (by first|exact .inl rfl|exact .inr rfl)) (AR (i:=3) (sc__law_take.nd) rfl (by first|exact .inl rfl|exact .inr rfl) (by first|exact .inl rfl|exact .inr rfl))))) (Ap (WR (Ae (pv 0)) (Al) (Ae (pv 2))) (Aq (AN (Ae (pv 3)))))
theorem Zas (f:Addr) (cdv:Value) (A:Around) (outer:List Env) (s:Shared) (H:Hp) (hr:RoomM 0 (A.deeper (envOfC "_law_kind" (defScope G4) s.heap.objs.size f cdv))):
 AU (IJ P w K mg base ["_law_e","_law_kinds","_law_words"] "_law_kind" (defScope G4) f cdv A outer s H) E0 (defBody G4) (OJ):=
 Ap (AZ (i:=1) sc__law_kind.nd rfl (by first|exact .inl rfl|exact .inr rfl) (Bx (Ac (AJ (Ce et) rfl B.n_isinstance Ci (Ac (Ae (pv 0)) (Ac (E8 et (by decide +kernel)) (Af)))) (Ac (AJ (Ce et) rfl B.n_isinstance Ci (Ac (Ae (pv 0)) (Ac (E8 et (by decide +kernel)) (Af)))) (Ac (AJ (Ce et) rfl B.n_isinstance Ci (Ac (Ae (pv 0)) (Ac (E8 et (by decide +kernel)) (Af)))) (Ac (AJ (Ce et) rfl B.n_isinstance Ci (Ac (Ae (pv 0)) (Ac (E8 et (by decide +kernel)) (Af)))) (Af))))))) (Ap (AZ (i:=1) sc__law_kind.nd rfl (by first|exact .inl rfl|exact .inr rfl) (Ay Bm (Ae (pv 1)) (Bx (Ac (AJ (Ce et) rfl B.n_isinstance Ci (Ac (Ae (pv 0)) (Ac (E8 et (by decide +kernel)) (Af)))) (Ac (AJ (Ce et) rfl B.n_isinstance Ci (Ac (Ae (pv 0)) (Ac (E8 et (by decide +kernel)) (Af)))) (Ac (AJ (Ce et) rfl B.n_isinstance Ci (Ac (Ae (pv 0)) (Ac (E8 et (by decide +kernel)) (Af)))) (Ac (AJ (Ce et) rfl B.n_isinstance Ci (Ac (Ae (pv 0)) (Ac (E8 et (by decide +kernel)) (Af)))) (Af)))))))) (Ap (AZ (i:=1) sc__law_kind.nd rfl (by first|exact .inl rfl|exact .inr rfl) (Ay Bm (Ae (pv 1)) (Bx (Ac (AJ (Ce et) rfl B.n_isinstance Ci (Ac (Ae (pv 0)) (Ac (E8 et (by decide +kernel)) (Af)))) (Ac (AJ (Ce et) rfl B.n_isinstance Ci (Ac (Ae (pv 0)) (Ac (E8 et (by decide +kernel)) (Af)))) (Af)))))) (Ap (BY (GD (EX (Dm (Dl (AJ (Ce et) rfl B.n_isinstance Ci (Ac (Ae (pv 0)) (Ac (EZ rfl B.n_ValueError ZR) (Af)))))) (GC (B5 (Ew hr.units) (RC PySem.F.plainAttrs_list PySem.F.slot_list_count PySem.F.type_list_count N3 X7 X5 (Ae (pv 1)) (BQ)) (Al) (BF _))))) (Aq (AN (B4))) (BX)) (Ap (BY (Dl (Bt (Ae (pv 1)) (Al) (fun _ _=>rfl))) Wz BX) (Ap (AZ (i:=2) sc__law_kind.nd rfl (by first|exact .inl rfl|exact .inr rfl) (Bx (Ac (B4) (Ac (B4) (Ac (B4) (Ac (B4) (Ac (B4) (Ac (B4) (Ac (B4) (Ac (B4) (Ac (B4) (Af)))))))))))) (Aq (AN (Ay Bm (B4) (Bt (Ae (pv 2)) (RC PySem.F.plainAttrs_list PySem.F.slot_list_index PySem.F.type_list_index N3 X6 X8 (Ae (pv 1)) (BQ)) (fun _ _=>rfl))))))))))
theorem Zat (f:Addr) (cdv:Value) (A:Around) (outer:List Env) (s:Shared) (H:Hp) (E:XK) (hr:Room 0 (A.deeper (envOfC "_law_switched" (defScope G5) s.heap.objs.size f cdv))):
 AU (AI (As P w K) P w K mg base ["_law_board_here","_law_rows","_law_columns","_law_found","_law_number","_law_row","_law_line","_law_place","_law_light"] "_law_switched" (defScope G5) f cdv A outer s H E) E (defBody G5) (OK):=
 Ap (AZ (i:=3) sc__law_switched.nd rfl (by first|exact .inl rfl|exact .inr rfl) (Bx (Af))) (Ap (DH DK rfl (Iw rfl B.n_enumerate (Ac (Ae (pv 0)) (Af))) (K1 (D7 rfl (AR (i:=4) (sc__law_switched.nd) rfl (by first|exact .inl rfl|exact .inr rfl) (by first|exact .inl rfl|exact .inr rfl)) (AR (i:=5) (sc__law_switched.nd) rfl (by first|exact .inl rfl|exact .inr rfl) (by first|exact .inl rfl|exact .inr rfl)))) (Ap (AZ (i:=6) sc__law_switched.nd rfl (by first|exact .inl rfl|exact .inr rfl) (Bx (Af))) (Ap (DH DK rfl (Iw rfl B.n_enumerate (Ac (Ae (pv 5)) (Af))) (K1 (D7 rfl (AR (i:=7) (sc__law_switched.nd) rfl (by first|exact .inl rfl|exact .inr rfl) (by first|exact .inl rfl|exact .inr rfl)) (AR (i:=8) (sc__law_switched.nd) rfl (by first|exact .inl rfl|exact .inr rfl) (by first|exact .inl rfl|exact .inr rfl)))) (Aq (Fz (JD (Ae (pv 6)) (Ay Ib (Ay Bm (Ay Bm (Ae (pv 8)) (CB Nl rfl B.n_int J3 (Ac (Fv KZ (Ae (pv 4)) (Ae (pv 1)) (by with_unfolding_all rfl)) (Af)))) (CB Nl rfl B.n_int J3 (Ac (Fv KZ (Ae (pv 7)) (Ae (pv 2)) (by with_unfolding_all rfl)) (Af)))) (Al)))))) (Aq (Fz (JD (Ae (pv 3)) (CB D3 rfl B.n_tuple Cs (Ac (Ae (pv 6)) (Af))))))))) (Aq (AN (CB D3 rfl B.n_tuple Cs (Ac (Ae (pv 3)) (Af))))))
theorem Zau (f:Addr) (cdv:Value) (A:Around) (outer:List Env) (s:Shared) (H:Hp) (E:XK) (hr:Room 0 (A.deeper (envOfC "_law_ones" (defScope G6) s.heap.objs.size f cdv))):
 AU (AI (As P w K) P w K mg base ["_law_found","_law_number"] "_law_ones" (defScope G6) f cdv A outer s H E) E (defBody G6) (OL):=
 Ap (AZ (i:=0) sc__law_ones.nd rfl (by first|exact .inl rfl|exact .inr rfl) (Bx (Ac (Al) (Af)))) (Ap (DH DK rfl (Qk rfl B.n_range (Ac (Al) (Ac (Al) (Af)))) (El (AR (i:=1) (sc__law_ones.nd) rfl (by first|exact .inl rfl|exact .inr rfl) (by first|exact .inl rfl|exact .inr rfl))) (Aq (Fz (JD (Ae (pv 0)) (Ay Bm (Bt (Ae (pv 0)) (Ay Qe (Ae (pv 1)) (Al)) (fun _ _=>rfl)) (Ay Ib (Ae (pv 1)) (Al))))))) (Aq (AN (Ae (pv 0)))))
theorem Zav (f:Addr) (cdv:Value) (A:Around) (outer:List Env) (s:Shared) (H:Hp) (E:XK) (hr:Room 0 (A.deeper (envOfC "_law_is_lot" (defScope G7) s.heap.objs.size f cdv))):
 AU (AI (As P w K) P w K mg base ["_law_thing","_law_size"] "_law_is_lot" (defScope G7) f cdv A outer s H E) E (defBody G7) (OM):=
 Ap (BY (Dm (Dl (AJ (Ce et) rfl B.n_isinstance Ci (Ac (Ae (pv 0)) (Ac (EZ rfl B.n_tuple Cs) (Af)))))) (Aq (AN (BQ))) (BX)) (Ap (BY (B5 (Ew hr.units) (Cb (Nc:=["_law_one","_law_size"]) (cs:=[none,some 1]) rfl (CSc.ok ⟨rfl,by decide +kernel,by kernel_rfl,by decide +kernel,rfl,by kernel_rfl⟩) (CF (Ae (pv 0))) (Dr rfl) (fun C D cells fp s₀ H₀ pins=>⟨AR (i:=0) (show (["_law_one","_law_size"]:List Str).Nodup from by decide +kernel) rfl (by first|exact .inl rfl|exact .inr rfl) (by first|exact .inl rfl|exact .inr rfl),K6 (GD (EX (Dm (Dl (AJ (Ce et) rfl B.n_isinstance Ci (Ac (Ae (pv 0)) (Ac (EZ rfl B.n_int J3) (Af)))))) (EX (Dl (AJ (Ce et) rfl B.n_isinstance Ci (Ac (Ae (pv 0)) (Ac (EZ rfl B.n_bool SS) (Af))))) (GC (Dm (P9 Jq Jp (Al) (Ae (pv 0)) (Ae (pv 1)))))))),Ae (pv 0)⟩)) (Bx (Af)) (BF _)) (Aq (AN (BQ))) (BX)) (Aq (AN (Fv (FL hr.units) (CB Ob rfl B.n_list Oz (Ac (Ae (pv 0)) (Af))) (ZP rfl rfl B.n_sorted rfl B.n_set ZV ZU (Ae (pv 0))) (BF _)))))
theorem Zaw {B1:List D→HD→Out D} (c_is_whole:CaE P w K mg base "is_whole" 1 B1) (f:Addr) (cdv:Value) (A:Around) (outer:List Env) (s:Shared) (H:Hp) (E:XK) (hr:Room 1 (A.deeper (envOfC "is_between" (defScope G8) s.heap.objs.size f cdv))):
 AU (AI (As P w K) P w K mg base ["thing","least","most"] "is_between" (defScope G8) f cdv A outer s H E) E (defBody G8) (L9 B1):=
 Aq (AN (Jm (AA c_is_whole hr AM (Ac (Ae (pv 0)) (Af))) (Jl (P8 Jq Jq (Ae (pv 1)) (Ae (pv 0)) (Ae (pv 2))))))
theorem Zax {B1:List D→HD→Out D} (c_is_whole:CaE P w K mg base "is_whole" 1 B1) (f:Addr) (cdv:Value) (A:Around) (outer:List Env) (s:Shared) (H:Hp) (E:XK) (hr:Room 1 (A.deeper (envOfC "is_lot" (defScope G9) s.heap.objs.size f cdv))):
 AU (AI (As P w K) P w K mg base ["thing","size","last","number"] "is_lot" (defScope G9) f cdv A outer s H E) E (defBody G9) (ON B1):=
 Ap (BY (Dm (Dl (AJ (Ce et) rfl B.n_isinstance Ci (Ac (Ae (pv 0)) (Ac (EZ rfl B.n_tuple Cs) (Af)))))) (Aq (AN (BQ))) (BX)) (Ap (AZ (i:=2) sc_is_lot.nd rfl (by first|exact .inl rfl|exact .inr rfl) (K9 (Al))) (Ap (DH DK rfl (CF (Ae (pv 0))) (El (AR (i:=3) (sc_is_lot.nd) rfl (by first|exact .inl rfl|exact .inr rfl) (by first|exact .inl rfl|exact .inr rfl))) (Ap (BY (GD (EX (Dm (Dl (AA c_is_whole hr AM (Ac (Ae (pv 3)) (Af))))) (GC (Dm (P9 Jp Jp (Ae (pv 2)) (Ae (pv 3)) (Ae (pv 1))))))) (Aq (AN (BQ))) (BX)) (Aq (AZ (i:=2) sc_is_lot.nd rfl (by first|exact .inl rfl|exact .inr rfl) (Ae (pv 3)))))) (Aq (AN (BQ)))))
theorem Zay {Fe:List D→HD→Out D} {Ff:List D→HD→Out D} (c__law_cell:CaE P w K mg base "_law_cell" 1 Fe) (c__law_mix:CaE P w K mg base "_law_mix" 1 Ff) (f:Addr) (cdv:Value) (A:Around) (outer:List Env) (s:Shared) (H:Hp) (E:XK) (hr:Room 1 (A.deeper (envOfC "_law_box" (defScope Ha) s.heap.objs.size f cdv))):
 AU (AI (As P w K) P w K mg base ["_law_script","_law_k","_law_here","_law_number","_law_j"] "_law_box" (defScope Ha) f cdv A outer s H E) E (defBody Ha) (OO Fe Ff):=
 Ap (AZ (i:=2) sc__law_box.nd rfl (by first|exact .inl rfl|exact .inr rfl) (AA c__law_cell hr AM (Ac (Ae (pv 0)) (Ac (Ae (pv 1)) (Af))))) (Ap (BY (B5 (FL hr.units) (Ay Ib (Ae (pv 2)) (Al)) (Al) (BF _)) (Aq (AN (Bx (Ac (Ay Qe (Ae (pv 2)) (Al)) (Af))))) (BX)) (Ap (AZ (i:=3) sc__law_box.nd rfl (by first|exact .inl rfl|exact .inr rfl) (Al)) (Ap (DH DK rfl (FB rfl B.n_range (Ac (Al) (Af))) (El (AR (i:=4) (sc__law_box.nd) rfl (by first|exact .inl rfl|exact .inr rfl) (by first|exact .inl rfl|exact .inr rfl))) (Aq (AZ (i:=3) sc__law_box.nd rfl (by first|exact .inl rfl|exact .inr rfl) (Ay Bm (Ay DN (Ae (pv 3)) (Al)) (AA c__law_mix hr AM (Ac (Ae (pv 2)) (Ac (Ae (pv 4)) (Af)))))))) (Aq (AN (Bx (Ac (Ae (pv 3)) (Af))))))))
theorem Zaz {AD:List D→HD→Out D} (c__law_take:CaE P w K mg base "_law_take" 1 AD) (f:Addr) (cdv:Value) (A:Around) (outer:List Env) (s:Shared) (H:Hp) (E:XK) (hr:Room 1 (A.deeper (envOfC "_law_wide_box" (defScope Hb) s.heap.objs.size f cdv))):
 AU (AI (As P w K) P w K mg base ["_law_box_here","_law_number","_law_many","_law_j"] "_law_wide_box" (defScope Hb) f cdv A outer s H E) E (defBody Hb) (OP AD):=
 Ap (Qg (i:=1) (j:=2) rfl sc__law_wide_box.nd rfl rfl (by decide) rfl rfl (Ac (AA c__law_take hr AM (Ac (Ae (pv 0)) (Ac (Al) (Af)))) (Ac (Al) (Af))) (by first |rfl |with_unfolding_all rfl)) (Ap (DH DK rfl (FB rfl B.n_range (Ac (Al) (Af))) (El (AR (i:=3) (sc__law_wide_box.nd) rfl (by first|exact .inl rfl|exact .inr rfl) (by first|exact .inl rfl|exact .inr rfl))) (Ap (AZ (i:=1) sc__law_wide_box.nd rfl (by first|exact .inl rfl|exact .inr rfl) (Ay Ib (Ay Bm (Ay Bm (Ay DN (Ae (pv 1)) (Al)) (Al)) (Ae (pv 3))) (Al))) (Aq (AZ (i:=2) sc__law_wide_box.nd rfl (by first|exact .inl rfl|exact .inr rfl) (Ay Bm (Ay DN (Ae (pv 2)) (Al)) (Ae (pv 1))))))) (Aq (AN (Bx (Ac (Ae (pv 2)) (Af))))))
theorem ZaA {AD:List D→HD→Out D} (c__law_take:CaE P w K mg base "_law_take" 1 AD) (f:Addr) (cdv:Value) (A:Around) (outer:List Env) (s:Shared) (H:Hp) (E:XK) (hr:Room 1 (A.deeper (envOfC "_law_no_board" (defScope Hc) s.heap.objs.size f cdv))):
 AU (AI (As P w K) P w K mg base ["_law_box_here","_law_board_here","_law_at","_law_place","_law_odd","_law_row","_law_bent","_law_some"] "_law_no_board" (defScope Hc) f cdv A outer s H E) E (defBody Hc) (OQ AD):=
 Ap (K2 (Bw (Ac (AA c__law_take hr AM (Ac (Ae (pv 0)) (Ac (AJ CC rfl B.n_len CJ (Ac (Ae (pv 1)) (Af))) (Af)))) (Ac (AA c__law_take hr AM (Ac (Ae (pv 0)) (Ac (AJ CC rfl B.n_len CJ (Ac (Bt (Ae (pv 1)) (Al) (fun _ _=>rfl)) (Af))) (Af)))) (Af)))) (RN (is:=[2,3]) (MV rfl (HL (AR (i:=2) (sc__law_no_board.nd) rfl (by first|exact .inl rfl|exact .inr rfl) (by first|exact .inl rfl|exact .inr rfl)) (HL (AR (i:=3) (sc__law_no_board.nd) rfl (by first|exact .inl rfl|exact .inr rfl) (by first|exact .inl rfl|exact .inr rfl)) (MU)))))) (Ap (AZ (i:=4) sc__law_no_board.nd rfl (by first|exact .inl rfl|exact .inr rfl) (Bt (Bx (Ac (Al) (Ac (K9 (Al)) (Ac (BQ) (Ac (BQ) (Ac (HX) (Ac (B4) (Ac (Bw (Ac (Al) (Af))) (Ac (Ay Qa (Al) (Al)) (Ac (Bx (Ac (Al) (Af))) (Ac (LD) (Af)))))))))))) (AA c__law_take hr AM (Ac (Ae (pv 0)) (Ac (Al) (Af)))) (fun _ _=>rfl))) (Ap (AZ (i:=5) sc__law_no_board.nd rfl (by first|exact .inl rfl|exact .inr rfl) (Bt (Ae (pv 1)) (Ae (pv 2)) (fun _ _=>rfl))) (Ap (AZ (i:=6) sc__law_no_board.nd rfl (by first|exact .inl rfl|exact .inr rfl) (Ay Bm (Ay Bm (JT (Ae (pv 5)) (JM) (JN (Ae (pv 3)))) (Bw (Ac (Ae (pv 4)) (Af)))) (JT (Ae (pv 5)) (JN (Ay Bm (Ae (pv 3)) (Al))) (JM)))) (Ap (AZ (i:=7) sc__law_no_board.nd rfl (by first|exact .inl rfl|exact .inr rfl) (Bx (Ac (Ae (pv 6)) (Ac (Ae (pv 6)) (Ac (Ae (pv 6)) (Ac (Ay Bm (Ae (pv 5)) (Ay DN (Bw (Ac (Al) (Af))) (Al))) (Ac (Bw (Af)) (Ac (CB Ob rfl B.n_list Oz (Ac (Ae (pv 5)) (Af))) (Ac (HX) (Ac (Al) (Af))))))))))) (Ap (BY (B5 Ng (AJ CC rfl B.n_len CJ (Ac (Ae (pv 1)) (Af))) (Al) (BF _)) (Aq (AZ (i:=7) sc__law_no_board.nd rfl (by first|exact .inl rfl|exact .inr rfl) (Ay Bm (Ae (pv 7)) (Bx (Ac (JT (Ae (pv 5)) (JM) (JN (K9 (Al)))) (Ac (Ay Bm (Ae (pv 5)) (Bw (Ac (Al) (Af)))) (Af))))))) (BX)) (Ap (Nq (i:=7) (Nc:=["_law_other","_law_board_here","_law_at"]) (cs:=[none,some 1,some 2]) rfl sc__law_no_board.nd rfl (by first|exact .inl rfl|exact .inr rfl) (CSc.ok ⟨rfl,by decide +kernel,by kernel_rfl,by decide +kernel,rfl,by kernel_rfl⟩) (CF (Ae (pv 7))) (Dr rfl) (fun C D cells fp s₀ H₀ pins=>⟨AR (i:=0) (show (["_law_other","_law_board_here","_law_at"]:List Str).Nodup from by decide +kernel) rfl (by first|exact .inl rfl|exact .inr rfl) (by first|exact .inl rfl|exact .inr rfl),Co,Ay Bm (Ay Bm (JT (Ae (pv 1)) (JM) (JN (Ae (pv 2)))) (Bw (Ac (Ae (pv 0)) (Af)))) (JT (Ae (pv 1)) (JN (Ay Bm (Ae (pv 2)) (Al))) (JM))⟩)) (Ap (AZ (i:=7) sc__law_no_board.nd rfl (by first|exact .inl rfl|exact .inr rfl) (Ay Bm (Ae (pv 7)) (Bx (Ac (CB Ob rfl B.n_list Oz (Ac (Ae (pv 1)) (Af))) (Ac (Bw (Ac (Ae (pv 1)) (Af))) (Ac (Ay DN (Bw (Ac (Bt (Ae (pv 1)) (Al) (fun _ _=>rfl)) (Af))) (Al)) (Ac (Ay Bm (Ae (pv 1)) (Bw (Ac (Bw (Af)) (Af)))) (Ac (Bt (Ae (pv 1)) (Al) (fun _ _=>rfl)) (Ac (HX) (Ac (Bw (Af)) (Ac (Al) (Ac (B4) (Ac (LD) (Af)))))))))))))) (Aq (AN (Bt (Ae (pv 7)) (AA c__law_take hr AM (Ac (Ae (pv 0)) (Ac (AJ CC rfl B.n_len CJ (Ac (Ae (pv 7)) (Af))) (Af)))) (fun _ _=>rfl)))))))))))
theorem ZaB {AD:List D→HD→Out D} (c__law_take:CaE P w K mg base "_law_take" 1 AD) (f:Addr) (cdv:Value) (A:Around) (outer:List Env) (s:Shared) (H:Hp) (E:XK) (hr:Room 1 (A.deeper (envOfC "_law_lot" (defScope Hd) s.heap.objs.size f cdv))):
 AU (AI (As P w K) P w K mg base ["_law_box_here","_law_size"] "_law_lot" (defScope Hd) f cdv A outer s H E) E (defBody Hd) (OR AD):=
 Aq (AN (CB D3 rfl B.n_tuple Cs (Ac (Cb (Nc:=["_law_number","_law_box_here"]) (cs:=[none,some 0]) rfl (CSc.ok ⟨rfl,by decide +kernel,by kernel_rfl,by decide +kernel,rfl,by kernel_rfl⟩) (FB rfl B.n_range (Ac (Ae (pv 1)) (Af))) (Dr rfl) (fun C D cells fp s₀ H₀ pins=>⟨AR (i:=0) (show (["_law_number","_law_box_here"]:List Str).Nodup from by decide +kernel) rfl (by first|exact .inl rfl|exact .inr rfl) (by first|exact .inl rfl|exact .inr rfl),K6 (B5 (FL hr.units) (AA c__law_take hr FE (Ac (Ae (pv 1)) (Ac (Al) (Af)))) (Al) (BF _)),Ae (pv 0)⟩)) (Af))))
theorem ZaC {AD:List D→HD→Out D} (c__law_take:CaE P w K mg base "_law_take" 1 AD) (f:Addr) (cdv:Value) (A:Around) (outer:List Env) (s:Shared) (H:Hp) (E:XK) (hr:Room 1 (A.deeper (envOfC "_law_no_lot" (defScope He) s.heap.objs.size f cdv))):
 AU (AI (As P w K) P w K mg base ["_law_box_here","_law_size","_law_low","_law_odd","_law_some"] "_law_no_lot" (defScope He) f cdv A outer s H E) E (defBody He) (OT AD):=
 Ap (AZ (i:=2) sc__law_no_lot.nd rfl (by first|exact .inl rfl|exact .inr rfl) (AA c__law_take hr AM (Ac (Ae (pv 0)) (Ac (Ae (pv 1)) (Af))))) (Ap (AZ (i:=3) sc__law_no_lot.nd rfl (by first|exact .inl rfl|exact .inr rfl) (Bt (Bx (Ac (Ae (pv 1)) (Ac (K9 (Al)) (Ac (BQ) (Ac (HX) (Ac (B4) (Ac (Bw (Ac (Al) (Af))) (Ac (Ay Qa (Al) (Al)) (Ac (BQ) (Ac (Bx (Ac (Al) (Af))) (Ac (LD) (Af)))))))))))) (AA c__law_take hr AM (Ac (Ae (pv 0)) (Ac (Al) (Af)))) (fun _ _=>rfl))) (Ap (AZ (i:=4) sc__law_no_lot.nd rfl (by first|exact .inl rfl|exact .inr rfl) (Bx (Ac (Bw (Ac (Ae (pv 3)) (Af))) (Ac (Bw (Ac (Ae (pv 2)) (Ac (Ae (pv 2)) (Af)))) (Ac (Bw (Ac (Ae (pv 2)) (Ac (Ae (pv 3)) (Af)))) (Ac (Bx (Ac (Ae (pv 2)) (Af))) (Ac (HX) (Ac (Ae (pv 2)) (Ac (B4) (Ac (P6 (B5 Ng (Ae (pv 1)) (Al) (BF _)) (Bw (Ac (Ay HZ (Ae (pv 1)) (Al)) (Ac (Al) (Af)))) (Bw (Ac (Al) (Ac (Al) (Af))))) (Ac (LD) (Ac (Bw (Ac (Ae (pv 3)) (Ac (Ae (pv 2)) (Af)))) (Af))))))))))))) (Ap (AZ (i:=4) sc__law_no_lot.nd rfl (by first|exact .inl rfl|exact .inr rfl) (Ay Bm (Ae (pv 4)) (Bx (Ac (Ay Bm (R4 rfl rfl B.n_tuple rfl B.n_range Cs (Ae (pv 1))) (Bw (Ac (Ae (pv 3)) (Af)))) (Ac (Ay Bm (R4 rfl rfl B.n_tuple rfl B.n_range Cs (Ae (pv 1))) (Bw (Ac (Ay HZ (Ae (pv 1)) (Al)) (Af)))) (Af)))))) (Aq (AN (Bt (Ae (pv 4)) (AA c__law_take hr AM (Ac (Ae (pv 0)) (Ac (Al) (Af)))) (fun _ _=>rfl)))))))
theorem ZaD {Eb:List D→HD→Out D} (c__law_ones:CaE P w K mg base "_law_ones" 1 Eb) (f:Addr) (cdv:Value) (A:Around) (outer:List Env) (s:Shared) (H:Hp) (E:XK) (hr:Room 1 (A.deeper (envOfC "_law_least" (defScope Hf) s.heap.objs.size f cdv))):
 AU (AI (As P w K) P w K mg base ["_law_board_here","_law_ones_here","_law_wide","_law_masks","_law_found","_law_columns","_law_counts"] "_law_least" (defScope Hf) f cdv A outer s H E) E (defBody Hf) (Ma Eb):=
 Ap (K2 (Bw (Ac (Zm c__law_ones hr AM) (Ac (AJ CC rfl B.n_len CJ (Ac (Bt (Ae (pv 0)) (Al) (fun _ _=>rfl)) (Af))) (Af)))) (RN (is:=[1,2]) (MV rfl (HL (AR (i:=1) (sc__law_least.nd) rfl (by first|exact .inl rfl|exact .inr rfl) (by first|exact .inl rfl|exact .inr rfl)) (HL (AR (i:=2) (sc__law_least.nd) rfl (by first|exact .inl rfl|exact .inr rfl) (by first|exact .inl rfl|exact .inr rfl)) (MU)))))) (Ap (Nq (i:=3) (Nc:=["_law_row"]) (cs:=[none]) rfl sc__law_least.nd rfl (by first|exact .inl rfl|exact .inr rfl) (CSc.ok ⟨rfl,by decide +kernel,by kernel_rfl,by decide +kernel,rfl,by kernel_rfl⟩) (CF (Ae (pv 0))) (Dr rfl) (fun C D cells fp s₀ H₀ pins=>⟨AR (i:=0) (show (["_law_row"]:List Str).Nodup from by decide +kernel) rfl (by first|exact .inl rfl|exact .inr rfl) (by first|exact .inl rfl|exact .inr rfl),Co,AJ (GI rfl) rfl B.n_sum GU (Ac (Cb (Nc:=["_law_place","_law_light"]) (cs:=[none,none]) rfl (CSc.ok ⟨rfl,by decide +kernel,by kernel_rfl,by decide +kernel,rfl,by kernel_rfl⟩) (Iw rfl B.n_enumerate (Ac (Ae (pv 0)) (Af))) (Gc rfl rfl) (fun C D cells fp s₀ H₀ pins=>⟨D7 rfl (AR (i:=0) (show (["_law_place","_law_light"]:List Str).Nodup from by decide +kernel) rfl (by first|exact .inl rfl|exact .inr rfl) (by first|exact .inl rfl|exact .inr rfl)) (AR (i:=1) (show (["_law_place","_law_light"]:List Str).Nodup from by decide +kernel) rfl (by first|exact .inl rfl|exact .inr rfl) (by first|exact .inl rfl|exact .inr rfl)),Co,Ay Qb (Ae (pv 1)) (Ae (pv 0))⟩)) (Af))⟩)) (Ap (AZ (i:=4) sc__law_least.nd rfl (by first|exact .inl rfl|exact .inr rfl) (Bx (Af))) (Ap (DH DK rfl (FB rfl B.n_range (Ac (Ay Qb (Al) (Ae (pv 2))) (Af))) (El (AR (i:=5) (sc__law_least.nd) rfl (by first|exact .inl rfl|exact .inr rfl) (by first|exact .inl rfl|exact .inr rfl))) (Ap (Nq (i:=6) (Nc:=["_law_mask","_law_ones_here","_law_columns"]) (cs:=[none,some 1,some 5]) rfl sc__law_least.nd rfl (by first|exact .inl rfl|exact .inr rfl) (CSc.ok ⟨rfl,by decide +kernel,by kernel_rfl,by decide +kernel,rfl,by kernel_rfl⟩) (CF (Ae (pv 3))) (Dr rfl) (fun C D cells fp s₀ H₀ pins=>⟨AR (i:=0) (show (["_law_mask","_law_ones_here","_law_columns"]:List Str).Nodup from by decide +kernel) rfl (by first|exact .inl rfl|exact .inr rfl) (by first|exact .inl rfl|exact .inr rfl),Co,Bt (Ae (pv 1)) (Ay Zl (Ae (pv 0)) (Ae (pv 2))) (fun _ _=>rfl)⟩)) (Aq (Fz (JD (Ae (pv 4)) (AJ (GI rfl) rfl B.n_sum GU (Ac (Cb (Nc:=["_law_many","_law_wide"]) (cs:=[none,some 2]) rfl (CSc.ok ⟨rfl,by decide +kernel,by kernel_rfl,by decide +kernel,rfl,by kernel_rfl⟩) (CF (Ae (pv 6))) (Dr rfl) (fun C D cells fp s₀ H₀ pins=>⟨AR (i:=0) (show (["_law_many","_law_wide"]:List Str).Nodup from by decide +kernel) rfl (by first|exact .inl rfl|exact .inr rfl) (by first|exact .inl rfl|exact .inr rfl),Co,AJ (Nk rfl) rfl B.n_min J4 (Ac (Ae (pv 0)) (Ac (Ay HZ (Ae (pv 1)) (Ae (pv 0))) (Af)))⟩)) (Af)))))))) (Aq (AN (AJ (Rb rfl) rfl B.n_min J4 (Ac (Ae (pv 4)) (Af))))))))
theorem ZaE {Fg:List D→HD→Out D} (c__law_switched:CaE P w K mg base "_law_switched" 1 Fg) (f:Addr) (cdv:Value) (A:Around) (outer:List Env) (s:Shared) (H:Hp) (E:XK) (hr:Room 1 (A.deeper (envOfC "_law_lit" (defScope Hg) s.heap.objs.size f cdv))):
 AU (AI (As P w K) P w K mg base ["_law_board_here","_law_switching"] "_law_lit" (defScope Hg) f cdv A outer s H E) E (defBody Hg) (OU Fg):=
 Aq (AN (AJ (GI rfl) rfl B.n_sum GU (Ac (Cb (Nc:=["_law_row"]) (cs:=[none]) rfl (CSc.ok ⟨rfl,by decide +kernel,by kernel_rfl,by decide +kernel,rfl,by kernel_rfl⟩) (CF (AA c__law_switched hr AM (Ac (Ae (pv 0)) (Ac (Bt (Ae (pv 1)) (Al) (fun _ _=>rfl)) (Ac (Bt (Ae (pv 1)) (Al) (fun _ _=>rfl)) (Af)))))) (Dr rfl) (fun C D cells fp s₀ H₀ pins=>⟨AR (i:=0) (show (["_law_row"]:List Str).Nodup from by decide +kernel) rfl (by first|exact .inl rfl|exact .inr rfl) (by first|exact .inl rfl|exact .inr rfl),Co,AJ (GI rfl) rfl B.n_sum GU (Ac (Ae (pv 0)) (Af))⟩)) (Af))))
theorem ZaF {ED:List D→HD→Out D} (c_is_between:CaE P w K mg base "is_between" 2 ED) (f:Addr) (cdv:Value) (A:Around) (outer:List Env) (s:Shared) (H:Hp) (E:XK) (hr:Room 2 (A.deeper (envOfC "is_light" (defScope Hh) s.heap.objs.size f cdv))):
 AU (AI (As P w K) P w K mg base ["thing"] "is_light" (defScope Hh) f cdv A outer s H E) E (defBody Hh) (OV ED):=
 Aq (AN (AA c_is_between hr AM (Ac (Ae (pv 0)) (Ac (Al) (Ac (Al) (Af))))))
theorem ZaG {AD:List D→HD→Out D} {Fh:List D→HD→Out D} (c__law_take:CaE P w K mg base "_law_take" 1 AD) (c__law_wide_box:CaE P w K mg base "_law_wide_box" 2 Fh) (f:Addr) (cdv:Value) (A:Around) (outer:List Env) (s:Shared) (H:Hp) (E:XK) (hr:Room 2 (A.deeper (envOfC "_law_board" (defScope Hi) s.heap.objs.size f cdv))):
 AU (AI (As P w K) P w K mg base ["_law_box_here","_law_high","_law_wide","_law_way","_law_digits","_law_dense","_law_rows","_law_number"] "_law_board" (defScope Hi) f cdv A outer s H E) E (defBody Hi) (OW AD Fh):=
 Ap (AZ (i:=3) sc__law_board.nd rfl (by first|exact .inl rfl|exact .inr rfl) (AA c__law_take hr AM (Ac (Ae (pv 0)) (Ac (Al) (Af))))) (Ap (AZ (i:=4) sc__law_board.nd rfl (by first|exact .inl rfl|exact .inr rfl) (AA c__law_wide_box hr AM (Ac (Ae (pv 0)) (Af)))) (Ap (AZ (i:=5) sc__law_board.nd rfl (by first|exact .inl rfl|exact .inr rfl) (Bt (Bx (Ac (Al) (Ac (Al) (Ac (Al) (Ac (Al) (Ac (Al) (Af))))))) (Ae (pv 3)) (fun _ _=>rfl))) (Ap (AZ (i:=6) sc__law_board.nd rfl (by first|exact .inl rfl|exact .inr rfl) (Bx (Af))) (Ap (DH DK rfl (FB rfl B.n_range (Ac (Ae (pv 1)) (Af))) (El (AR (i:=7) (sc__law_board.nd) rfl (by first|exact .inl rfl|exact .inr rfl) (by first|exact .inl rfl|exact .inr rfl))) (Aq (Fz (JD (Ae (pv 6)) (CB D3 rfl B.n_tuple Cs (Ac (Cb (Nc:=["_law_place","_law_digits","_law_dense"]) (cs:=[none,some 4,some 5]) rfl (CSc.ok ⟨rfl,by decide +kernel,by kernel_rfl,by decide +kernel,rfl,by kernel_rfl⟩) (FB rfl B.n_range (Ac (Ae (pv 2)) (Af))) (Dr rfl) (fun C D cells fp s₀ H₀ pins=>⟨AR (i:=0) (show (["_law_place","_law_digits","_law_dense"]:List Str).Nodup from by decide +kernel) rfl (by first|exact .inl rfl|exact .inr rfl) (by first|exact .inl rfl|exact .inr rfl),Co,CB Nl rfl B.n_int J3 (Ac (Fv Jp (AA c__law_take hr FE (Ac (Ae (pv 1)) (Ac (Al) (Af)))) (Ae (pv 2)) (BF _)) (Af))⟩)) (Af))))))) (Ap (BY (B5 (FL hr.units) (Ae (pv 3)) (Al) (BF _)) (Aq (AZ (i:=6) sc__law_board.nd rfl (by first|exact .inl rfl|exact .inr rfl) (Ay DN (Bx (Ac (Bt (Ae (pv 6)) (Al) (fun _ _=>rfl)) (Af))) (Ae (pv 1))))) (BX)) (Aq (AN (CB D3 rfl B.n_tuple Cs (Ac (Ae (pv 6)) (Af))))))))))
theorem ZaH {CK:List D→HD→Out D} {Fi:List D→HD→Out D} (c_is_line_tuple:CaE P w K mg base "is_line_tuple" 1 CK) (c_is_light:CaE P w K mg base "is_light" 3 Fi) (f:Addr) (cdv:Value) (A:Around) (outer:List Env) (s:Shared) (H:Hp) (E:XK) (hr:Room 3 (A.deeper (envOfC "is_row" (defScope Hj) s.heap.objs.size f cdv))):
 AU (AI (As P w K) P w K mg base ["thing"] "is_row" (defScope Hj) f cdv A outer s H E) E (defBody Hj) (OX CK Fi):=
 Aq (AN (Jm (AA c_is_line_tuple hr AM (Ac (Ae (pv 0)) (Af))) (Jl (AJ (Nv rfl) rfl B.n_all Oy (Ac (Cb (Nc:=["light"]) (cs:=[none]) rfl (CSc.ok ⟨rfl,by decide +kernel,by kernel_rfl,by decide +kernel,rfl,by kernel_rfl⟩) (CF (Ae (pv 0))) (Dr rfl) (fun C D cells fp s₀ H₀ pins=>⟨AR (i:=0) (show (["light"]:List Str).Nodup from by decide +kernel) rfl (by first|exact .inl rfl|exact .inr rfl) (by first|exact .inl rfl|exact .inr rfl),Co,AA c_is_light hr FE (Ac (Ae (pv 0)) (Af))⟩)) (Af))))))
theorem ZaI {CK:List D→HD→Out D} {Fj:List D→HD→Out D} (c_is_line_tuple:CaE P w K mg base "is_line_tuple" 1 CK) (c_is_row:CaE P w K mg base "is_row" 4 Fj) (f:Addr) (cdv:Value) (A:Around) (outer:List Env) (s:Shared) (H:Hp) (E:XK) (hr:Room 4 (A.deeper (envOfC "is_board" (defScope Hk) s.heap.objs.size f cdv))):
 AU (AI (As P w K) P w K mg base ["thing"] "is_board" (defScope Hk) f cdv A outer s H E) E (defBody Hk) (OY CK Fj):=
 Ap (BY (GD (EX (Dm (Dl (AA c_is_line_tuple hr AM (Ac (Ae (pv 0)) (Af))))) (GC (Dm (Dl (AJ (Nv rfl) rfl B.n_all Oy (Ac (Cb (Nc:=["row"]) (cs:=[none]) rfl (CSc.ok ⟨rfl,by decide +kernel,by kernel_rfl,by decide +kernel,rfl,by kernel_rfl⟩) (CF (Ae (pv 0))) (Dr rfl) (fun C D cells fp s₀ H₀ pins=>⟨AR (i:=0) (show (["row"]:List Str).Nodup from by decide +kernel) rfl (by first|exact .inl rfl|exact .inr rfl) (by first|exact .inl rfl|exact .inr rfl),Co,AA c_is_row hr FE (Ac (Ae (pv 0)) (Af))⟩)) (Af)))))))) (Aq (AN (BQ))) (BX)) (Aq (AN (AJ (Nv rfl) rfl B.n_all Oy (Ac (Cb (Nc:=["row","thing"]) (cs:=[none,some 0]) rfl (CSc.ok ⟨rfl,by decide +kernel,by kernel_rfl,by decide +kernel,rfl,by kernel_rfl⟩) (CF (Ae (pv 0))) (Dr rfl) (fun C D cells fp s₀ H₀ pins=>⟨AR (i:=0) (show (["row","thing"]:List Str).Nodup from by decide +kernel) rfl (by first|exact .inl rfl|exact .inr rfl) (by first|exact .inl rfl|exact .inr rfl),Co,Fv (FL hr.units) (AJ CC rfl B.n_len CJ (Ac (Ae (pv 0)) (Af))) (AJ CC rfl B.n_len CJ (Ac (Bt (Ae (pv 1)) (Al) (fun _ _=>rfl)) (Af))) (BF _)⟩)) (Af)))))
theorem ZaJ {EJ:List D→HD→Out D} (c_is_board:CaE P w K mg base "is_board" 5 EJ) (f:Addr) (cdv:Value) (A:Around) (outer:List Env) (s:Shared) (H:Hp) (E:XK) (hr:Room 5 (A.deeper (envOfC "need_board" (defScope Hl) s.heap.objs.size f cdv))):
 AU (AI (As P w K) P w K mg base ["thing"] "need_board" (defScope Hl) f cdv A outer s H E) E (defBody Hl) (Mb EJ):=
 Aq (BY (Dm (Dl (AA c_is_board hr AM (Ac (Ae (pv 0)) (Af))))) (Aq (RO et (by decide +kernel) (by decide +kernel) rfl rfl Q4 (Ac (B4) (Af)))) (BX))
theorem ZaK {Bk:List D→HD→Out D} (c_need_board:CaE P w K mg base "need_board" 6 Bk) (f:Addr) (cdv:Value) (A:Around) (outer:List Env) (s:Shared) (H:Hp) (E:XK) (hr:Room 6 (A.deeper (envOfC "row_counts" (defScope Hm) s.heap.objs.size f cdv))):
 AU (AI (As P w K) P w K mg base ["board"] "row_counts" (defScope Hm) f cdv A outer s H E) E (defBody Hm) (OZ Bk):=
 Ap (Fz (AA c_need_board hr AM (Ac (Ae (pv 0)) (Af)))) (Aq (AN (CB D3 rfl B.n_tuple Cs (Ac (Cb (Nc:=["row"]) (cs:=[none]) rfl (CSc.ok ⟨rfl,by decide +kernel,by kernel_rfl,by decide +kernel,rfl,by kernel_rfl⟩) (CF (Ae (pv 0))) (Dr rfl) (fun C D cells fp s₀ H₀ pins=>⟨AR (i:=0) (show (["row"]:List Str).Nodup from by decide +kernel) rfl (by first|exact .inl rfl|exact .inr rfl) (by first|exact .inl rfl|exact .inr rfl),Co,AJ (GI rfl) rfl B.n_sum GU (Ac (Ae (pv 0)) (Af))⟩)) (Af)))))
theorem ZaL {Bk:List D→HD→Out D} {Ec:List D→HD→Out D} (c_need_board:CaE P w K mg base "need_board" 6 Bk) (c_is_lot:CaE P w K mg base "is_lot" 2 Ec) (f:Addr) (cdv:Value) (A:Around) (outer:List Env) (s:Shared) (H:Hp) (E:XK) (hr:Room 6 (A.deeper (envOfC "is_switching" (defScope Hn) s.heap.objs.size f cdv))):
 AU (AI (As P w K) P w K mg base ["board","thing"] "is_switching" (defScope Hn) f cdv A outer s H E) E (defBody Hn) (Mc Bk Ec):=
 Ap (Fz (AA c_need_board hr AM (Ac (Ae (pv 0)) (Af)))) (Ap (BY (GD (EX (Dm (Dl (AJ (Ce et) rfl B.n_isinstance Ci (Ac (Ae (pv 1)) (Ac (EZ rfl B.n_tuple Cs) (Af)))))) (GC (B5 (Ew hr.units) (AJ CC rfl B.n_len CJ (Ac (Ae (pv 1)) (Af))) (Al) (BF _))))) (Aq (AN (BQ))) (BX)) (Aq (AN (Jm (AA c_is_lot hr AM (Ac (Bt (Ae (pv 1)) (Al) (fun _ _=>rfl)) (Ac (AJ CC rfl B.n_len CJ (Ac (Ae (pv 0)) (Af))) (Af)))) (Jl (AA c_is_lot hr AM (Ac (Bt (Ae (pv 1)) (Al) (fun _ _=>rfl)) (Ac (AJ CC rfl B.n_len CJ (Ac (Bt (Ae (pv 0)) (Al) (fun _ _=>rfl)) (Af))) (Af)))))))))
theorem ZaM {Bk:List D→HD→Out D} (c_need_board:CaE P w K mg base "need_board" 6 Bk) (f:Addr) (cdv:Value) (A:Around) (outer:List Env) (s:Shared) (H:Hp) (E:XK) (hr:Room 6 (A.deeper (envOfC "turned" (defScope Ho) s.heap.objs.size f cdv))):
 AU (AI (As P w K) P w K mg base ["board"] "turned" (defScope Ho) f cdv A outer s H E) E (defBody Ho) (Md Bk):=
 Ap (Fz (AA c_need_board hr AM (Ac (Ae (pv 0)) (Af)))) (Aq (AN (CB D3 rfl B.n_tuple Cs (Ac (Cb (Nc:=["number","board"]) (cs:=[none,some 0]) rfl (CSc.ok ⟨rfl,by decide +kernel,by kernel_rfl,by decide +kernel,rfl,by kernel_rfl⟩) (FB rfl B.n_range (Ac (AJ CC rfl B.n_len CJ (Ac (Bt (Ae (pv 0)) (Al) (fun _ _=>rfl)) (Af))) (Af))) (Dr rfl) (fun C D cells fp s₀ H₀ pins=>⟨AR (i:=0) (show (["number","board"]:List Str).Nodup from by decide +kernel) rfl (by first|exact .inl rfl|exact .inr rfl) (by first|exact .inl rfl|exact .inr rfl),Co,CB D3 rfl B.n_tuple Cs (Ac (Cb (Nc:=["row","number"]) (cs:=[none,some 0]) rfl (CSc.ok ⟨rfl,by decide +kernel,by kernel_rfl,by decide +kernel,rfl,by kernel_rfl⟩) (CF (Ae (pv 1))) (Dr rfl) (fun C D cells fp s₀ H₀ pins=>⟨AR (i:=0) (show (["row","number"]:List Str).Nodup from by decide +kernel) rfl (by first|exact .inl rfl|exact .inr rfl) (by first|exact .inl rfl|exact .inr rfl),Co,Bt (Ae (pv 0)) (Ae (pv 1)) (fun _ _=>rfl)⟩)) (Af))⟩)) (Af)))))
theorem ZaN {Cu:List D→HD→Out D} (c_row_counts:CaE P w K mg base "row_counts" 7 Cu) (f:Addr) (cdv:Value) (A:Around) (outer:List Env) (s:Shared) (H:Hp) (E:XK) (hr:Room 7 (A.deeper (envOfC "lit_many" (defScope Hq) s.heap.objs.size f cdv))):
 AU (AI (As P w K) P w K mg base ["board"] "lit_many" (defScope Hq) f cdv A outer s H E) E (defBody Hq) (O0 Cu):=
 Aq (AN (AJ (GI rfl) rfl B.n_sum GU (Ac (AA c_row_counts hr AM (Ac (Ae (pv 0)) (Af))) (Af))))
theorem ZaO {Ed:List D→HD→Out D} {Cu:List D→HD→Out D} (c_turned:CaE P w K mg base "turned" 7 Ed) (c_row_counts:CaE P w K mg base "row_counts" 7 Cu) (f:Addr) (cdv:Value) (A:Around) (outer:List Env) (s:Shared) (H:Hp) (E:XK) (hr:Room 7 (A.deeper (envOfC "column_counts" (defScope Hr) s.heap.objs.size f cdv))):
 AU (AI (As P w K) P w K mg base ["board"] "column_counts" (defScope Hr) f cdv A outer s H E) E (defBody Hr) (Me Ed Cu):=
 Aq (AN (AA c_row_counts hr AM (Ac (AA c_turned hr AM (Ac (Ae (pv 0)) (Af))) (Af))))
theorem ZaP {Dz:List D→HD→Out D} (c_is_switching:CaE P w K mg base "is_switching" 7 Dz) (f:Addr) (cdv:Value) (A:Around) (outer:List Env) (s:Shared) (H:Hp) (E:XK) (hr:Room 7 (A.deeper (envOfC "need_switching" (defScope Hs) s.heap.objs.size f cdv))):
 AU (AI (As P w K) P w K mg base ["board","thing"] "need_switching" (defScope Hs) f cdv A outer s H E) E (defBody Hs) (J6 Dz):=
 Aq (BY (Dm (Dl (AA c_is_switching hr AM (Ac (Ae (pv 0)) (Ac (Ae (pv 1)) (Af)))))) (Aq (RO et (by decide +kernel) (by decide +kernel) rfl rfl Q4 (Ac (B4) (Af)))) (BX))
theorem ZaQ {DA:List D→HD→Out D} {Ez:List D→HD→Out D} (c_need_switching:CaE P w K mg base "need_switching" 8 DA) (c_row_switched:CaE P w K mg base "row_switched" 1 Ez) (f:Addr) (cdv:Value) (A:Around) (outer:List Env) (s:Shared) (H:Hp) (E:XK) (hr:Room 8 (A.deeper (envOfC "switched" (defScope Ht) s.heap.objs.size f cdv))):
 AU (AI (As P w K) P w K mg base ["board","switching","rows","columns"] "switched" (defScope Ht) f cdv A outer s H E) E (defBody Ht) (Mf DA Ez):=
 Ap (Fz (AA c_need_switching hr AM (Ac (Ae (pv 0)) (Ac (Ae (pv 1)) (Af))))) (Ap (K2 (Ae (pv 1)) (K1 (D7 rfl (AR (i:=2) (sc_switched.nd) rfl (by first|exact .inl rfl|exact .inr rfl) (by first|exact .inl rfl|exact .inr rfl)) (AR (i:=3) (sc_switched.nd) rfl (by first|exact .inl rfl|exact .inr rfl) (by first|exact .inl rfl|exact .inr rfl))))) (Aq (AN (CB D3 rfl B.n_tuple Cs (Ac (Cb (Nc:=["number","row","columns","rows"]) (cs:=[none,none,some 3,some 2]) rfl (CSc.ok ⟨rfl,by decide +kernel,by kernel_rfl,by decide +kernel,rfl,by kernel_rfl⟩) (Iw rfl B.n_enumerate (Ac (Ae (pv 0)) (Af))) (Gc rfl rfl) (fun C D cells fp s₀ H₀ pins=>⟨D7 rfl (AR (i:=0) (show (["number","row","columns","rows"]:List Str).Nodup from by decide +kernel) rfl (by first|exact .inl rfl|exact .inr rfl) (by first|exact .inl rfl|exact .inr rfl)) (AR (i:=1) (show (["number","row","columns","rows"]:List Str).Nodup from by decide +kernel) rfl (by first|exact .inl rfl|exact .inr rfl) (by first|exact .inl rfl|exact .inr rfl)),Co,AA c_row_switched hr FE (Ac (Ae (pv 1)) (Ac (Ae (pv 2)) (Ac (Fv KZ (Ae (pv 0)) (Ae (pv 3)) (by with_unfolding_all rfl)) (Af))))⟩)) (Af))))))
theorem ZaR {Ee:List D→HD→Out D} {EA:List D→HD→Out D} (c_column_counts:CaE P w K mg base "column_counts" 8 Ee) (c_counts_with_row:CaE P w K mg base "counts_with_row" 1 EA) (f:Addr) (cdv:Value) (A:Around) (outer:List Env) (s:Shared) (H:Hp) (E:XK) (hr:Room 8 (A.deeper (envOfC "lots_with_counts" (defScope Hu) s.heap.objs.size f cdv))):
 AU (AI (As P w K) P w K mg base ["board","found","number"] "lots_with_counts" (defScope Hu) f cdv A outer s H E) E (defBody Hu) (Mg Ee EA):=
 Ap (AZ (i:=1) sc_lots_with_counts.nd rfl (by first|exact .inl rfl|exact .inr rfl) (Bx (Ac (Bw (Ac (Bw (Af)) (Ac (AA c_column_counts hr AM (Ac (Ae (pv 0)) (Af))) (Af)))) (Af)))) (Ap (DH DK rfl (Qk rfl B.n_range (Ac (Al) (Ac (AJ CC rfl B.n_len CJ (Ac (Ae (pv 0)) (Af))) (Af)))) (El (AR (i:=2) (sc_lots_with_counts.nd) rfl (by first|exact .inl rfl|exact .inr rfl) (by first|exact .inl rfl|exact .inr rfl))) (Aq (AZ (i:=1) sc_lots_with_counts.nd rfl (by first|exact .inl rfl|exact .inr rfl) (Ay Bm (Ae (pv 1)) (Cb (Nc:=["lot","counts","number","board"]) (cs:=[none,none,some 2,some 0]) rfl (CSc.ok ⟨rfl,by decide +kernel,by kernel_rfl,by decide +kernel,rfl,by kernel_rfl⟩) (CF (Ae (pv 1))) (Gc rfl rfl) (fun C D cells fp s₀ H₀ pins=>⟨D7 rfl (AR (i:=0) (show (["lot","counts","number","board"]:List Str).Nodup from by decide +kernel) rfl (by first|exact .inl rfl|exact .inr rfl) (by first|exact .inl rfl|exact .inr rfl)) (AR (i:=1) (show (["lot","counts","number","board"]:List Str).Nodup from by decide +kernel) rfl (by first|exact .inl rfl|exact .inr rfl) (by first|exact .inl rfl|exact .inr rfl)),Co,Bw (Ac (Ay Bm (Ae (pv 0)) (Bw (Ac (Ae (pv 2)) (Af)))) (Ac (AA c_counts_with_row hr FE (Ac (Ae (pv 1)) (Ac (Bt (Ae (pv 3)) (Ae (pv 2)) (fun _ _=>rfl)) (Af)))) (Af)))⟩)))))) (Aq (AN (Ae (pv 1)))))
theorem ZaS {BI:List D→HD→Out D} {Cj:List D→HD→Out D} (c_lots_with_counts:CaE P w K mg base "lots_with_counts" 9 BI) (c_fewest_lit:CaE P w K mg base "fewest_lit" 1 Cj) (f:Addr) (cdv:Value) (A:Around) (outer:List Env) (s:Shared) (H:Hp) (E:XK) (hr:Room 9 (A.deeper (envOfC "left_many" (defScope Hv) s.heap.objs.size f cdv))):
 AU (AI (As P w K) P w K mg base ["board"] "left_many" (defScope Hv) f cdv A outer s H E) E (defBody Hv) (Mh BI Cj):=
 Aq (AN (AJ (Rb rfl) rfl B.n_min J4 (Ac (Cb (Nc:=["lot","counts","board"]) (cs:=[none,none,some 0]) rfl (CSc.ok ⟨rfl,by decide +kernel,by kernel_rfl,by decide +kernel,rfl,by kernel_rfl⟩) (CF (AA c_lots_with_counts hr AM (Ac (Ae (pv 0)) (Af)))) (Gc rfl rfl) (fun C D cells fp s₀ H₀ pins=>⟨D7 rfl (AR (i:=0) (show (["lot","counts","board"]:List Str).Nodup from by decide +kernel) rfl (by first|exact .inl rfl|exact .inr rfl) (by first|exact .inl rfl|exact .inr rfl)) (AR (i:=1) (show (["lot","counts","board"]:List Str).Nodup from by decide +kernel) rfl (by first|exact .inl rfl|exact .inr rfl) (by first|exact .inl rfl|exact .inr rfl)),Co,AA c_fewest_lit hr FE (Ac (Ae (pv 1)) (Ac (AJ CC rfl B.n_len CJ (Ac (Ae (pv 2)) (Af))) (Af)))⟩)) (Af))))
theorem ZaT {Bs:List D→HD→Out D} {BI:List D→HD→Out D} {Cj:List D→HD→Out D} {EB:List D→HD→Out D} (c_left_many:CaE P w K mg base "left_many" 10 Bs) (c_lots_with_counts:CaE P w K mg base "lots_with_counts" 9 BI) (c_fewest_lit:CaE P w K mg base "fewest_lit" 1 Cj) (c_fuller_columns:CaE P w K mg base "fuller_columns" 1 EB) (f:Addr) (cdv:Value) (A:Around) (outer:List Env) (s:Shared) (H:Hp) (E:XK) (hr:Room 10 (A.deeper (envOfC "best_switching" (defScope Hw) s.heap.objs.size f cdv))):
 AU (AI (As P w K) P w K mg base ["board","fewest","high"] "best_switching" (defScope Hw) f cdv A outer s H E) E (defBody Hw) (Mi Bs BI Cj EB):=
 Ap (AZ (i:=1) sc_best_switching.nd rfl (by first|exact .inl rfl|exact .inr rfl) (AA c_left_many hr AM (Ac (Ae (pv 0)) (Af)))) (Ap (AZ (i:=2) sc_best_switching.nd rfl (by first|exact .inl rfl|exact .inr rfl) (AJ CC rfl B.n_len CJ (Ac (Ae (pv 0)) (Af)))) (Aq (AN (Bt (Cb (Nc:=["lot","counts","high","fewest"]) (cs:=[none,none,some 2,some 1]) rfl (CSc.ok ⟨rfl,by decide +kernel,by kernel_rfl,by decide +kernel,rfl,by kernel_rfl⟩) (CF (AA c_lots_with_counts hr AM (Ac (Ae (pv 0)) (Af)))) (Gc rfl rfl) (fun C D cells fp s₀ H₀ pins=>⟨D7 rfl (AR (i:=0) (show (["lot","counts","high","fewest"]:List Str).Nodup from by decide +kernel) rfl (by first|exact .inl rfl|exact .inr rfl) (by first|exact .inl rfl|exact .inr rfl)) (AR (i:=1) (show (["lot","counts","high","fewest"]:List Str).Nodup from by decide +kernel) rfl (by first|exact .inl rfl|exact .inr rfl) (by first|exact .inl rfl|exact .inr rfl)),K6 (B5 (FL hr.units) (AA c_fewest_lit hr FE (Ac (Ae (pv 1)) (Ac (Ae (pv 2)) (Af)))) (Ae (pv 3)) (BF _)),Bw (Ac (Ae (pv 0)) (Ac (AA c_fuller_columns hr FE (Ac (Ae (pv 1)) (Ac (Ae (pv 2)) (Af)))) (Af)))⟩)) (Al) (fun _ _=>rfl)))))
theorem ZaU {Du:List D→HD→Out D} {EK:List D→HD→Out D} {Bs:List D→HD→Out D} (c_switched:CaE P w K mg base "switched" 9 Du) (c_lit_many:CaE P w K mg base "lit_many" 8 EK) (c_left_many:CaE P w K mg base "left_many" 10 Bs) (f:Addr) (cdv:Value) (A:Around) (outer:List Env) (s:Shared) (H:Hp) (E:XK) (hr:Room 10 (A.deeper (envOfC "is_best" (defScope Hx) s.heap.objs.size f cdv))):
 AU (AI (As P w K) P w K mg base ["board","switching"] "is_best" (defScope Hx) f cdv A outer s H E) E (defBody Hx) (Mj Du EK Bs):=
 Aq (AN (Fv (FL hr.units) (AA c_lit_many hr AM (Ac (AA c_switched hr AM (Ac (Ae (pv 0)) (Ac (Ae (pv 1)) (Af)))) (Af))) (AA c_left_many hr AM (Ac (Ae (pv 0)) (Af))) (BF _)))
theorem ZaV {EF:List D→HD→Out D} {AD:List D→HD→Out D} {EI:List D→HD→Out D} {EH:List D→HD→Out D} {Bs:List D→HD→Out D} {Dc:List D→HD→Out D} {DO:List D→HD→Out D} {DR:List D→HD→Out D} {DP:List D→HD→Out D} {CL:List D→HD→Out D} {DQ:List D→HD→Out D} {EG:List D→HD→Out D} {Ct:List D→HD→Out D} (c__law_box:CaE P w K mg base "_law_box" 2 EF) (c__law_take:CaE P w K mg base "_law_take" 1 AD) (c__law_board:CaE P w K mg base "_law_board" 3 EI) (c__law_least:CaE P w K mg base "_law_least" 2 EH) (c_left_many:CaE P w K mg base "left_many" 10 Bs) (c_best_switching:CaE P w K mg base "best_switching" 11 Dc) (c__law_is_lot:CaE P w K mg base "_law_is_lot" 1 DO) (c__law_lit:CaE P w K mg base "_law_lit" 2 DR) (c__law_lot:CaE P w K mg base "_law_lot" 2 DP) (c_is_best:CaE P w K mg base "is_best" 11 CL) (c__law_no_lot:CaE P w K mg base "_law_no_lot" 2 DQ) (c__law_no_board:CaE P w K mg base "_law_no_board" 2 EG) (c__law_kind:CaM P w K mg base "_law_kind" 1 Ct) {fv_best_switching:Addr} (n_best_switching:PySem.W.nsIn K mainGlobals "best_switching"=some (some (.ref fv_best_switching))) {fv_left_many:Addr} (n_left_many:PySem.W.nsIn K mainGlobals "left_many"=some (some (.ref fv_left_many))) {cT T fsd:Addr} {fdd:FuncData} (htp:tabP K=some (cT,T)) (hcd:PySem.W.codeHdIn K cT T=true) (hbm:IK mg base) (Sd:SaidD K mg J5 fsd fdd) (f:Addr) (A:Around) (outer:List Env) (s:Shared) (H:Hp) (E:XK) (hr:Room 13 (A.deeper (envOfC "law" (defScope s_law) s.heap.objs.size f (.ref cT)))):
 AU (AI (As P w K) P w K mg base ["_law_script","_law_k","_law_box_here","_law_high","_law_wide","_law_board_here","_law_due","_law_found","_law_turn","_law_some","_law_bad","_law_none","_law_thing","_law_call"] "law" (defScope s_law) f (.ref cT) A outer s H E) E (defBody s_law) (Mk EF AD EI EH Bs Dc DO DR DP CL DQ EG Ct):=
 have LX:LamX (AI (As P w K) P w K mg base ["_law_script","_law_k","_law_box_here","_law_high","_law_wide","_law_board_here","_law_due","_law_found","_law_turn","_law_some","_law_bad","_law_none","_law_thing","_law_call"] "law" (defScope s_law) f (.ref cT) A outer s H E) cT T:=⟨rfl,htp,hcd,(show ("law":Str)++".<locals>."=("law.<locals>.":Str) by decide +kernel),hbm⟩
 Ap (DH DK rfl (FB rfl B.n_range (Ac (AJ (Wy rfl) rfl B.n_max ZT (Ac (Al) (Ac (AJ (Nk rfl) rfl B.n_min J4 (Ac (AJ CC rfl B.n_len CJ (Ac (Ae (pv 0)) (Af))) (Ac (Al) (Af)))) (Af)))) (Af))) (El (AR (i:=1) (sc_law.nd) rfl (by first|exact .inl rfl|exact .inr rfl) (by first|exact .inl rfl|exact .inr rfl))) (Ap (AZ (i:=2) sc_law.nd rfl (by first|exact .inl rfl|exact .inr rfl) (AA c__law_box hr AM (Ac (Ae (pv 0)) (Ac (Ae (pv 1)) (Af))))) (Ap (Qg (i:=3) (j:=4) rfl sc_law.nd rfl rfl (by decide) rfl rfl (Ac (Ay Bm (Al) (AA c__law_take hr AM (Ac (Ae (pv 2)) (Ac (Al) (Af))))) (Ac (Ay Bm (Al) (AA c__law_take hr AM (Ac (Ae (pv 2)) (Ac (Al) (Af))))) (Af))) (by first |rfl |with_unfolding_all rfl)) (Ap (AZ (i:=5) sc_law.nd rfl (by first|exact .inl rfl|exact .inr rfl) (AA c__law_board hr AM (Ac (Ae (pv 2)) (Ac (Ae (pv 3)) (Ac (Ae (pv 4)) (Af)))))) (Ap (AZ (i:=6) sc_law.nd rfl (by first|exact .inl rfl|exact .inr rfl) (AA c__law_least hr AM (Ac (Ae (pv 5)) (Af)))) (Ap (BY (B5 (Ew hr.units) (AJ (LA hr.units hr.gd) rfl B.n_repr L7 (Ac (AA c_left_many hr AM (Ac (Ae (pv 5)) (Af))) (Af))) (AJ (LA hr.units hr.gd) rfl B.n_repr L7 (Ac (Ae (pv 6)) (Af))) (BF _)) (Aq (AN (BQ))) (BX)) (Ap (AZ (i:=7) sc_law.nd rfl (by first|exact .inl rfl|exact .inr rfl) (AA c_best_switching hr AM (Ac (Ae (pv 5)) (Af)))) (Ap (BY (GD (EX (Dm (Dl (AJ (Ce et) rfl B.n_isinstance Ci (Ac (Ae (pv 7)) (Ac (EZ rfl B.n_tuple Cs) (Af)))))) (EX (B5 (Ew hr.units) (AJ CC rfl B.n_len CJ (Ac (Ae (pv 7)) (Af))) (Al) (BF _)) (GC (B5 (Ew hr.units) (AA c_best_switching hr AM (Ac (Ae (pv 5)) (Af))) (Ae (pv 7)) (BF _)))))) (Aq (AN (BQ))) (BX)) (Ap (BY (GD (EX (Dm (Dl (AA c__law_is_lot hr AM (Ac (Bt (Ae (pv 7)) (Al) (fun _ _=>rfl)) (Ac (Ae (pv 3)) (Af)))))) (EX (Dm (Dl (AA c__law_is_lot hr AM (Ac (Bt (Ae (pv 7)) (Al) (fun _ _=>rfl)) (Ac (Ae (pv 4)) (Af)))))) (GC (B5 (Ew hr.units) (AA c__law_lit hr AM (Ac (Ae (pv 5)) (Ac (Ae (pv 7)) (Af)))) (Ae (pv 6)) (BF _)))))) (Aq (AN (BQ))) (BX)) (Ap (DH DK rfl (FB rfl B.n_range (Ac (Al) (Af))) (El (AR (i:=8) (sc_law.nd) rfl (by first|exact .inl rfl|exact .inr rfl) (by first|exact .inl rfl|exact .inr rfl))) (Ap (AZ (i:=9) sc_law.nd rfl (by first|exact .inl rfl|exact .inr rfl) (Bw (Ac (AA c__law_lot hr AM (Ac (Ae (pv 2)) (Ac (Ae (pv 3)) (Af)))) (Ac (AA c__law_lot hr AM (Ac (Ae (pv 2)) (Ac (Ae (pv 4)) (Af)))) (Af))))) (Aq (BY (B5 (Ew hr.units) (AJ (LA hr.units hr.gd) rfl B.n_repr L7 (Ac (AA c_is_best hr AM (Ac (Ae (pv 5)) (Ac (Ae (pv 9)) (Af)))) (Af))) (AJ (LA hr.units hr.gd) rfl B.n_repr L7 (Ac (Fv (FL hr.units) (AA c__law_lit hr AM (Ac (Ae (pv 5)) (Ac (Ae (pv 9)) (Af)))) (Ae (pv 6)) (BF _)) (Af))) (BF _)) (Aq (AN (BQ))) (BX))))) (Ap (BY (B5 Wq (AA c_is_best hr AM (Ac (Ae (pv 5)) (Ac (Ae (pv 7)) (Af)))) (BQ) (BF _)) (Aq (AN (BQ))) (BX)) (Ap (AZ (i:=10) sc_law.nd rfl (by first|exact .inl rfl|exact .inr rfl) (Bx (Ac (Bw (Ac (AA c__law_no_lot hr AM (Ac (Ae (pv 2)) (Ac (Ae (pv 3)) (Af)))) (Ac (Bt (Ae (pv 7)) (Al) (fun _ _=>rfl)) (Af)))) (Ac (Bw (Ac (Bt (Ae (pv 7)) (Al) (fun _ _=>rfl)) (Ac (AA c__law_no_lot hr AM (Ac (Ae (pv 2)) (Ac (Ae (pv 4)) (Af)))) (Af)))) (Ac (HX) (Ac (Bx (Af)) (Ac (Bt (Ae (pv 7)) (Al) (fun _ _=>rfl)) (Af)))))))) (Ap (AZ (i:=11) sc_law.nd rfl (by first|exact .inl rfl|exact .inr rfl) (AA c__law_no_board hr AM (Ac (Ae (pv 2)) (Ac (Ae (pv 5)) (Af))))) (Ap (DH DK rfl (CF (Ae (pv 10))) (El (AR (i:=12) (sc_law.nd) rfl (by first|exact .inl rfl|exact .inr rfl) (by first|exact .inl rfl|exact .inr rfl))) (Ap (BY (B5 (Ew hr.units) (N9 (Nc:=["_law_board_here","_law_thing"]) (cs:=[5,12]) LX (fun _=>rfl) hr Iu et Sd OA (CaM.mono (k:=11) c__law_kind (by decide)) ⟨⟨rfl,rfl,rfl,by kernel_rfl⟩,by decide +kernel,by kernel_rfl,rfl,by kernel_rfl⟩ (fun a cd cl A outer s H E' hr=>AA c_is_best hr N4 (Ac (Ae (pv 0)) (Ac (Ae (pv 1)) (Af)))) rfl) (B4) (BF _)) (Aq (AN (BQ))) (BX)) (Aq (BY (B5 (Ew hr.units) (N9 (Nc:=["_law_none","_law_thing"]) (cs:=[11,12]) LX (fun _=>rfl) hr Iu et Sd OA (CaM.mono (k:=11) c__law_kind (by decide)) ⟨⟨rfl,rfl,rfl,by kernel_rfl⟩,by decide +kernel,by kernel_rfl,rfl,by kernel_rfl⟩ (fun a cd cl A outer s H E' hr=>AA c_is_best hr N4 (Ac (Ae (pv 0)) (Ac (Ae (pv 1)) (Af)))) rfl) (B4) (BF _)) (Aq (AN (BQ))) (BX))))) (Aq (DH DK rfl (CF (Bx (Ac (RV n_left_many) (Ac (RV n_best_switching) (Af))))) (El (AR (i:=13) (sc_law.nd) rfl (by first|exact .inl rfl|exact .inr rfl) (by first|exact .inl rfl|exact .inr rfl))) (Aq (BY (B5 (Ew hr.units) (N9 (Nc:=["_law_call","_law_none"]) (cs:=[13,11]) LX (fun _=>rfl) hr Iu et Sd OA (CaM.mono (k:=11) c__law_kind (by decide)) ⟨⟨rfl,rfl,rfl,by kernel_rfl⟩,by decide +kernel,by kernel_rfl,rfl,by kernel_rfl⟩ (fun a cd cl A outer s H E' hr=>YM (k:=11) (RU c_left_many (RU c_best_switching (YL))) hr N4 (Ae (pv 0)) (Ac (Ae (pv 1)) (Af))) rfl) (B4) (BF _)) (Aq (AN (BQ))) (BX))))))))))))))))))) (Aq (AN (BQ)))
noncomputable def B1:List D→HD→Out D:=fun ds h=>if ds.length=1 then Am 1 (OB) ds h else .stuck
theorem ZaW {f:Addr} {fd:FuncData} (D:Dn K mg "is_whole" ["thing"] GV f fd):CaE P w K mg base "is_whole" 1 B1:=
 ⟨f,fd,_,Be D.fn ZW (fun ds h e=>if_neg e) (fun ds h e=>if_pos e) (fun cdv A outer s H E hr=>Zaj B et f cdv A outer s H E hr),D.bd,D.mg,D.fn.kp⟩
noncomputable def CK:List D→HD→Out D:=fun ds h=>if ds.length=1 then Am 1 (OC) ds h else .stuck
theorem ZaX {t_MOST_LINES:Tok} (m_MOST_LINES:mg "MOST_LINES"=some (.int 8 t_MOST_LINES)) {f:Addr} {fd:FuncData} (D:Dn K mg "is_line_tuple" ["thing"] GW f fd):CaE P w K mg base "is_line_tuple" 1 CK:=
 ⟨f,fd,_,Be D.fn ZX (fun ds h e=>if_neg e) (fun ds h e=>if_pos e) (fun cdv A outer s H E hr=>Zak B et m_MOST_LINES f cdv A outer s H E hr),D.bd,D.mg,D.fn.kp⟩
noncomputable def Ez:List D→HD→Out D:=fun ds h=>if ds.length=3 then Am 3 (OD) ds h else .stuck
theorem ZaY {f:Addr} {fd:FuncData} (D:Dn K mg "row_switched" ["row","columns","is_turned"] GX f fd):CaE P w K mg base "row_switched" 1 Ez:=
 ⟨f,fd,_,Be D.fn ZY (fun ds h e=>if_neg e) (fun ds h e=>if_pos e) (fun cdv A outer s H E hr=>Zal B et f cdv A outer s H E hr),D.bd,D.mg,D.fn.kp⟩
noncomputable def EA:List D→HD→Out D:=fun ds h=>if ds.length=2 then Am 2 (OE) ds h else .stuck
theorem ZaZ {f:Addr} {fd:FuncData} (D:Dn K mg "counts_with_row" ["counts","row"] GY f fd):CaE P w K mg base "counts_with_row" 1 EA:=
 ⟨f,fd,_,Be D.fn ZZ (fun ds h e=>if_neg e) (fun ds h e=>if_pos e) (fun cdv A outer s H E hr=>Zam B et f cdv A outer s H E hr),D.bd,D.mg,D.fn.kp⟩
noncomputable def Cj:List D→HD→Out D:=fun ds h=>if ds.length=2 then Am 2 (OF) ds h else .stuck
theorem Za0 {f:Addr} {fd:FuncData} (D:Dn K mg "fewest_lit" ["counts","high"] GZ f fd):CaE P w K mg base "fewest_lit" 1 Cj:=
 ⟨f,fd,_,Be D.fn Z0 (fun ds h e=>if_neg e) (fun ds h e=>if_pos e) (fun cdv A outer s H E hr=>Zan B et f cdv A outer s H E hr),D.bd,D.mg,D.fn.kp⟩
noncomputable def EB:List D→HD→Out D:=fun ds h=>if ds.length=2 then Am 2 (OG) ds h else .stuck
theorem Za1 {f:Addr} {fd:FuncData} (D:Dn K mg "fuller_columns" ["counts","high"] G0 f fd):CaE P w K mg base "fuller_columns" 1 EB:=
 ⟨f,fd,_,Be D.fn Z1 (fun ds h e=>if_neg e) (fun ds h e=>if_pos e) (fun cdv A outer s H E hr=>Zao B et f cdv A outer s H E hr),D.bd,D.mg,D.fn.kp⟩
noncomputable def Fe:List D→HD→Out D:=fun ds h=>if ds.length=2 then Am 2 (L8) ds h else .stuck
theorem Za2 {f:Addr} {fd:FuncData} (D:Dn K mg "_law_cell" ["_law_script","_law_k"] G1 f fd):CaE P w K mg base "_law_cell" 1 Fe:=
 ⟨f,fd,_,Be D.fn Z2 (fun ds h e=>if_neg e) (fun ds h e=>if_pos e) (fun cdv A outer s H E hr=>Zap B et f cdv A outer s H E hr),D.bd,D.mg,D.fn.kp⟩
noncomputable def Ff:List D→HD→Out D:=fun ds h=>if ds.length=2 then Am 3 (OH) ds h else .stuck
theorem Za3 {f:Addr} {fd:FuncData} (D:Dn K mg "_law_mix" ["_law_cell_here","_law_k"] G2 f fd):CaE P w K mg base "_law_mix" 1 Ff:=
 ⟨f,fd,_,Be D.fn sc__law_mix (fun ds h e=>if_neg e) (fun ds h e=>if_pos e) (fun cdv A outer s H E hr=>Zaq B et f cdv A outer s H E hr),D.bd,D.mg,D.fn.kp⟩
noncomputable def AD:List D→HD→Out D:=fun ds h=>if ds.length=2 then Am 4 (OI) ds h else .stuck
theorem Za4 {f:Addr} {fd:FuncData} (D:Dn K mg "_law_take" ["_law_box_here","_law_many"] G3 f fd):CaE P w K mg base "_law_take" 1 AD:=
 ⟨f,fd,_,Be D.fn sc__law_take (fun ds h e=>if_neg e) (fun ds h e=>if_pos e) (fun cdv A outer s H E hr=>Zar B et f cdv A outer s H E hr),D.bd,D.mg,D.fn.kp⟩
noncomputable def Ct:List D→HD→Out D:=fun ds h=>if ds.length=1 then Am 3 (OJ) ds h else .stuck
theorem Za5 {f:Addr} {fd:FuncData} (D:Dn K mg "_law_kind" ["_law_e"] G4 f fd):CaM P w K mg base "_law_kind" 1 Ct:=
 ⟨f,fd,_,Yh D.fn sc__law_kind (fun ds h e=>if_neg e) (fun ds h e=>if_pos e) (fun cdv A outer s H hr=>Zas B et f cdv A outer s H hr),D.bd,D.mg,D.fn.kp,fun ds h e=>if_neg e⟩
noncomputable def Fg:List D→HD→Out D:=fun ds h=>if ds.length=3 then Am 9 (OK) ds h else .stuck
theorem Za6 {f:Addr} {fd:FuncData} (D:Dn K mg "_law_switched" ["_law_board_here","_law_rows","_law_columns"] G5 f fd):CaE P w K mg base "_law_switched" 1 Fg:=
 ⟨f,fd,_,Be D.fn sc__law_switched (fun ds h e=>if_neg e) (fun ds h e=>if_pos e) (fun cdv A outer s H E hr=>Zat B et f cdv A outer s H E hr),D.bd,D.mg,D.fn.kp⟩
noncomputable def Eb:List D→HD→Out D:=fun ds h=>if ds.length=0 then Am 2 (OL) ds h else .stuck
theorem Za7 {f:Addr} {fd:FuncData} (D:Dn K mg "_law_ones" [] G6 f fd):CaE P w K mg base "_law_ones" 1 Eb:=
 ⟨f,fd,_,Be D.fn sc__law_ones (fun ds h e=>if_neg e) (fun ds h e=>if_pos e) (fun cdv A outer s H E hr=>Zau B et f cdv A outer s H E hr),D.bd,D.mg,D.fn.kp⟩
noncomputable def DO:List D→HD→Out D:=fun ds h=>if ds.length=2 then Am 2 (OM) ds h else .stuck
theorem Za8 {f:Addr} {fd:FuncData} (D:Dn K mg "_law_is_lot" ["_law_thing","_law_size"] G7 f fd):CaE P w K mg base "_law_is_lot" 1 DO:=
 ⟨f,fd,_,Be D.fn Z3 (fun ds h e=>if_neg e) (fun ds h e=>if_pos e) (fun cdv A outer s H E hr=>Zav B et f cdv A outer s H E hr),D.bd,D.mg,D.fn.kp⟩
noncomputable def ED:List D→HD→Out D:=fun ds h=>if ds.length=3 then Am 3 (L9 B1) ds h else .stuck
theorem Za9 (c_is_whole:CaE P w K mg base "is_whole" 1 B1) {f:Addr} {fd:FuncData} (D:Dn K mg "is_between" ["thing","least","most"] G8 f fd):CaE P w K mg base "is_between" 2 ED:=
 ⟨f,fd,_,Be D.fn Z4 (fun ds h e=>if_neg e) (fun ds h e=>if_pos e) (fun cdv A outer s H E hr=>Zaw B et c_is_whole f cdv A outer s H E hr),D.bd,D.mg,D.fn.kp⟩
noncomputable def Ec:List D→HD→Out D:=fun ds h=>if ds.length=2 then Am 4 (ON B1) ds h else .stuck
theorem Zba (c_is_whole:CaE P w K mg base "is_whole" 1 B1) {f:Addr} {fd:FuncData} (D:Dn K mg "is_lot" ["thing","size"] G9 f fd):CaE P w K mg base "is_lot" 2 Ec:=
 ⟨f,fd,_,Be D.fn sc_is_lot (fun ds h e=>if_neg e) (fun ds h e=>if_pos e) (fun cdv A outer s H E hr=>Zax B et c_is_whole f cdv A outer s H E hr),D.bd,D.mg,D.fn.kp⟩
noncomputable def EF:List D→HD→Out D:=fun ds h=>if ds.length=2 then Am 5 (OO Fe Ff) ds h else .stuck
theorem Zbb (c__law_cell:CaE P w K mg base "_law_cell" 1 Fe) (c__law_mix:CaE P w K mg base "_law_mix" 1 Ff) {f:Addr} {fd:FuncData} (D:Dn K mg "_law_box" ["_law_script","_law_k"] Ha f fd):CaE P w K mg base "_law_box" 2 EF:=
 ⟨f,fd,_,Be D.fn sc__law_box (fun ds h e=>if_neg e) (fun ds h e=>if_pos e) (fun cdv A outer s H E hr=>Zay B et c__law_cell c__law_mix f cdv A outer s H E hr),D.bd,D.mg,D.fn.kp⟩
noncomputable def Fh:List D→HD→Out D:=fun ds h=>if ds.length=1 then Am 4 (OP AD) ds h else .stuck
theorem Zbc (c__law_take:CaE P w K mg base "_law_take" 1 AD) {f:Addr} {fd:FuncData} (D:Dn K mg "_law_wide_box" ["_law_box_here"] Hb f fd):CaE P w K mg base "_law_wide_box" 2 Fh:=
 ⟨f,fd,_,Be D.fn sc__law_wide_box (fun ds h e=>if_neg e) (fun ds h e=>if_pos e) (fun cdv A outer s H E hr=>Zaz B et c__law_take f cdv A outer s H E hr),D.bd,D.mg,D.fn.kp⟩
noncomputable def EG:List D→HD→Out D:=fun ds h=>if ds.length=2 then Am 8 (OQ AD) ds h else .stuck
theorem Zbd (c__law_take:CaE P w K mg base "_law_take" 1 AD) {f:Addr} {fd:FuncData} (D:Dn K mg "_law_no_board" ["_law_box_here","_law_board_here"] Hc f fd):CaE P w K mg base "_law_no_board" 2 EG:=
 ⟨f,fd,_,Be D.fn sc__law_no_board (fun ds h e=>if_neg e) (fun ds h e=>if_pos e) (fun cdv A outer s H E hr=>ZaA B et c__law_take f cdv A outer s H E hr),D.bd,D.mg,D.fn.kp⟩
noncomputable def DP:List D→HD→Out D:=fun ds h=>if ds.length=2 then Am 2 (OR AD) ds h else .stuck
theorem Zbe (c__law_take:CaE P w K mg base "_law_take" 1 AD) {f:Addr} {fd:FuncData} (D:Dn K mg "_law_lot" ["_law_box_here","_law_size"] Hd f fd):CaE P w K mg base "_law_lot" 2 DP:=
 ⟨f,fd,_,Be D.fn Z5 (fun ds h e=>if_neg e) (fun ds h e=>if_pos e) (fun cdv A outer s H E hr=>ZaB B et c__law_take f cdv A outer s H E hr),D.bd,D.mg,D.fn.kp⟩
noncomputable def DQ:List D→HD→Out D:=fun ds h=>if ds.length=2 then Am 5 (OT AD) ds h else .stuck
theorem Zbf (c__law_take:CaE P w K mg base "_law_take" 1 AD) {f:Addr} {fd:FuncData} (D:Dn K mg "_law_no_lot" ["_law_box_here","_law_size"] He f fd):CaE P w K mg base "_law_no_lot" 2 DQ:=
 ⟨f,fd,_,Be D.fn sc__law_no_lot (fun ds h e=>if_neg e) (fun ds h e=>if_pos e) (fun cdv A outer s H E hr=>ZaC B et c__law_take f cdv A outer s H E hr),D.bd,D.mg,D.fn.kp⟩
noncomputable def EH:List D→HD→Out D:=fun ds h=>if ds.length=1 then Am 7 (Ma Eb) ds h else .stuck
theorem Zbg (c__law_ones:CaE P w K mg base "_law_ones" 1 Eb) {f:Addr} {fd:FuncData} (D:Dn K mg "_law_least" ["_law_board_here"] Hf f fd):CaE P w K mg base "_law_least" 2 EH:=
 ⟨f,fd,_,Be D.fn sc__law_least (fun ds h e=>if_neg e) (fun ds h e=>if_pos e) (fun cdv A outer s H E hr=>ZaD B et c__law_ones f cdv A outer s H E hr),D.bd,D.mg,D.fn.kp⟩
noncomputable def DR:List D→HD→Out D:=fun ds h=>if ds.length=2 then Am 2 (OU Fg) ds h else .stuck
theorem Zbh (c__law_switched:CaE P w K mg base "_law_switched" 1 Fg) {f:Addr} {fd:FuncData} (D:Dn K mg "_law_lit" ["_law_board_here","_law_switching"] Hg f fd):CaE P w K mg base "_law_lit" 2 DR:=
 ⟨f,fd,_,Be D.fn Z6 (fun ds h e=>if_neg e) (fun ds h e=>if_pos e) (fun cdv A outer s H E hr=>ZaE B et c__law_switched f cdv A outer s H E hr),D.bd,D.mg,D.fn.kp⟩
noncomputable def Fi:List D→HD→Out D:=fun ds h=>if ds.length=1 then Am 1 (OV ED) ds h else .stuck
theorem Zbi (c_is_between:CaE P w K mg base "is_between" 2 ED) {f:Addr} {fd:FuncData} (D:Dn K mg "is_light" ["thing"] Hh f fd):CaE P w K mg base "is_light" 3 Fi:=
 ⟨f,fd,_,Be D.fn Z7 (fun ds h e=>if_neg e) (fun ds h e=>if_pos e) (fun cdv A outer s H E hr=>ZaF B et c_is_between f cdv A outer s H E hr),D.bd,D.mg,D.fn.kp⟩
noncomputable def EI:List D→HD→Out D:=fun ds h=>if ds.length=3 then Am 8 (OW AD Fh) ds h else .stuck
theorem Zbj (c__law_take:CaE P w K mg base "_law_take" 1 AD) (c__law_wide_box:CaE P w K mg base "_law_wide_box" 2 Fh) {f:Addr} {fd:FuncData} (D:Dn K mg "_law_board" ["_law_box_here","_law_high","_law_wide"] Hi f fd):CaE P w K mg base "_law_board" 3 EI:=
 ⟨f,fd,_,Be D.fn sc__law_board (fun ds h e=>if_neg e) (fun ds h e=>if_pos e) (fun cdv A outer s H E hr=>ZaG B et c__law_take c__law_wide_box f cdv A outer s H E hr),D.bd,D.mg,D.fn.kp⟩
noncomputable def Fj:List D→HD→Out D:=fun ds h=>if ds.length=1 then Am 1 (OX CK Fi) ds h else .stuck
theorem Zbk (c_is_line_tuple:CaE P w K mg base "is_line_tuple" 1 CK) (c_is_light:CaE P w K mg base "is_light" 3 Fi) {f:Addr} {fd:FuncData} (D:Dn K mg "is_row" ["thing"] Hj f fd):CaE P w K mg base "is_row" 4 Fj:=
 ⟨f,fd,_,Be D.fn Z8 (fun ds h e=>if_neg e) (fun ds h e=>if_pos e) (fun cdv A outer s H E hr=>ZaH B et c_is_line_tuple c_is_light f cdv A outer s H E hr),D.bd,D.mg,D.fn.kp⟩
noncomputable def EJ:List D→HD→Out D:=fun ds h=>if ds.length=1 then Am 1 (OY CK Fj) ds h else .stuck
theorem Zbl (c_is_line_tuple:CaE P w K mg base "is_line_tuple" 1 CK) (c_is_row:CaE P w K mg base "is_row" 4 Fj) {f:Addr} {fd:FuncData} (D:Dn K mg "is_board" ["thing"] Hk f fd):CaE P w K mg base "is_board" 5 EJ:=
 ⟨f,fd,_,Be D.fn Z9 (fun ds h e=>if_neg e) (fun ds h e=>if_pos e) (fun cdv A outer s H E hr=>ZaI B et c_is_line_tuple c_is_row f cdv A outer s H E hr),D.bd,D.mg,D.fn.kp⟩
noncomputable def Bk:List D→HD→Out D:=fun ds h=>if ds.length=1 then Am 1 (Mb EJ) ds h else .stuck
theorem Zbm (c_is_board:CaE P w K mg base "is_board" 5 EJ) {f:Addr} {fd:FuncData} (D:Dn K mg "need_board" ["thing"] Hl f fd):CaE P w K mg base "need_board" 6 Bk:=
 ⟨f,fd,_,Be D.fn Zaa (fun ds h e=>if_neg e) (fun ds h e=>if_pos e) (fun cdv A outer s H E hr=>ZaJ B et c_is_board f cdv A outer s H E hr),D.bd,D.mg,D.fn.kp⟩
noncomputable def Cu:List D→HD→Out D:=fun ds h=>if ds.length=1 then Am 1 (OZ Bk) ds h else .stuck
theorem Zbn (c_need_board:CaE P w K mg base "need_board" 6 Bk) {f:Addr} {fd:FuncData} (D:Dn K mg "row_counts" ["board"] Hm f fd):CaE P w K mg base "row_counts" 7 Cu:=
 ⟨f,fd,_,Be D.fn Zab (fun ds h e=>if_neg e) (fun ds h e=>if_pos e) (fun cdv A outer s H E hr=>ZaK B et c_need_board f cdv A outer s H E hr),D.bd,D.mg,D.fn.kp⟩
noncomputable def Dz:List D→HD→Out D:=fun ds h=>if ds.length=2 then Am 2 (Mc Bk Ec) ds h else .stuck
theorem Zbo (c_need_board:CaE P w K mg base "need_board" 6 Bk) (c_is_lot:CaE P w K mg base "is_lot" 2 Ec) {f:Addr} {fd:FuncData} (D:Dn K mg "is_switching" ["board","thing"] Hn f fd):CaE P w K mg base "is_switching" 7 Dz:=
 ⟨f,fd,_,Be D.fn Zac (fun ds h e=>if_neg e) (fun ds h e=>if_pos e) (fun cdv A outer s H E hr=>ZaL B et c_need_board c_is_lot f cdv A outer s H E hr),D.bd,D.mg,D.fn.kp⟩
noncomputable def Ed:List D→HD→Out D:=fun ds h=>if ds.length=1 then Am 1 (Md Bk) ds h else .stuck
theorem Zbp (c_need_board:CaE P w K mg base "need_board" 6 Bk) {f:Addr} {fd:FuncData} (D:Dn K mg "turned" ["board"] Ho f fd):CaE P w K mg base "turned" 7 Ed:=
 ⟨f,fd,_,Be D.fn Zad (fun ds h e=>if_neg e) (fun ds h e=>if_pos e) (fun cdv A outer s H E hr=>ZaM B et c_need_board f cdv A outer s H E hr),D.bd,D.mg,D.fn.kp⟩
noncomputable def EK:List D→HD→Out D:=fun ds h=>if ds.length=1 then Am 1 (O0 Cu) ds h else .stuck
theorem Zbq (c_row_counts:CaE P w K mg base "row_counts" 7 Cu) {f:Addr} {fd:FuncData} (D:Dn K mg "lit_many" ["board"] Hq f fd):CaE P w K mg base "lit_many" 8 EK:=
 ⟨f,fd,_,Be D.fn Zae (fun ds h e=>if_neg e) (fun ds h e=>if_pos e) (fun cdv A outer s H E hr=>ZaN B et c_row_counts f cdv A outer s H E hr),D.bd,D.mg,D.fn.kp⟩
noncomputable def Ee:List D→HD→Out D:=fun ds h=>if ds.length=1 then Am 1 (Me Ed Cu) ds h else .stuck
theorem Zbr (c_turned:CaE P w K mg base "turned" 7 Ed) (c_row_counts:CaE P w K mg base "row_counts" 7 Cu) {f:Addr} {fd:FuncData} (D:Dn K mg "column_counts" ["board"] Hr f fd):CaE P w K mg base "column_counts" 8 Ee:=
 ⟨f,fd,_,Be D.fn Zaf (fun ds h e=>if_neg e) (fun ds h e=>if_pos e) (fun cdv A outer s H E hr=>ZaO B et c_turned c_row_counts f cdv A outer s H E hr),D.bd,D.mg,D.fn.kp⟩
noncomputable def DA:List D→HD→Out D:=fun ds h=>if ds.length=2 then Am 2 (J6 Dz) ds h else .stuck
theorem Zbs (c_is_switching:CaE P w K mg base "is_switching" 7 Dz) {f:Addr} {fd:FuncData} (D:Dn K mg "need_switching" ["board","thing"] Hs f fd):CaE P w K mg base "need_switching" 8 DA:=
 ⟨f,fd,_,Be D.fn Zag (fun ds h e=>if_neg e) (fun ds h e=>if_pos e) (fun cdv A outer s H E hr=>ZaP B et c_is_switching f cdv A outer s H E hr),D.bd,D.mg,D.fn.kp⟩
noncomputable def Du:List D→HD→Out D:=fun ds h=>if ds.length=2 then Am 4 (Mf DA Ez) ds h else .stuck
theorem Zbt (c_need_switching:CaE P w K mg base "need_switching" 8 DA) (c_row_switched:CaE P w K mg base "row_switched" 1 Ez) {f:Addr} {fd:FuncData} (D:Dn K mg "switched" ["board","switching"] Ht f fd):CaE P w K mg base "switched" 9 Du:=
 ⟨f,fd,_,Be D.fn sc_switched (fun ds h e=>if_neg e) (fun ds h e=>if_pos e) (fun cdv A outer s H E hr=>ZaQ B et c_need_switching c_row_switched f cdv A outer s H E hr),D.bd,D.mg,D.fn.kp⟩
noncomputable def BI:List D→HD→Out D:=fun ds h=>if ds.length=1 then Am 3 (Mg Ee EA) ds h else .stuck
theorem Zbu (c_column_counts:CaE P w K mg base "column_counts" 8 Ee) (c_counts_with_row:CaE P w K mg base "counts_with_row" 1 EA) {f:Addr} {fd:FuncData} (D:Dn K mg "lots_with_counts" ["board"] Hu f fd):CaE P w K mg base "lots_with_counts" 9 BI:=
 ⟨f,fd,_,Be D.fn sc_lots_with_counts (fun ds h e=>if_neg e) (fun ds h e=>if_pos e) (fun cdv A outer s H E hr=>ZaR B et c_column_counts c_counts_with_row f cdv A outer s H E hr),D.bd,D.mg,D.fn.kp⟩
noncomputable def Bs:List D→HD→Out D:=fun ds h=>if ds.length=1 then Am 1 (Mh BI Cj) ds h else .stuck
theorem Zbv (c_lots_with_counts:CaE P w K mg base "lots_with_counts" 9 BI) (c_fewest_lit:CaE P w K mg base "fewest_lit" 1 Cj) {f:Addr} {fd:FuncData} (D:Dn K mg "left_many" ["board"] Hv f fd):CaE P w K mg base "left_many" 10 Bs:=
 ⟨f,fd,_,Be D.fn Zah (fun ds h e=>if_neg e) (fun ds h e=>if_pos e) (fun cdv A outer s H E hr=>ZaS B et c_lots_with_counts c_fewest_lit f cdv A outer s H E hr),D.bd,D.mg,D.fn.kp⟩
noncomputable def Dc:List D→HD→Out D:=fun ds h=>if ds.length=1 then Am 3 (Mi Bs BI Cj EB) ds h else .stuck
theorem Zbw (c_left_many:CaE P w K mg base "left_many" 10 Bs) (c_lots_with_counts:CaE P w K mg base "lots_with_counts" 9 BI) (c_fewest_lit:CaE P w K mg base "fewest_lit" 1 Cj) (c_fuller_columns:CaE P w K mg base "fuller_columns" 1 EB) {f:Addr} {fd:FuncData} (D:Dn K mg "best_switching" ["board"] Hw f fd):CaE P w K mg base "best_switching" 11 Dc:=
 ⟨f,fd,_,Be D.fn sc_best_switching (fun ds h e=>if_neg e) (fun ds h e=>if_pos e) (fun cdv A outer s H E hr=>ZaT B et c_left_many c_lots_with_counts c_fewest_lit c_fuller_columns f cdv A outer s H E hr),D.bd,D.mg,D.fn.kp⟩
noncomputable def CL:List D→HD→Out D:=fun ds h=>if ds.length=2 then Am 2 (Mj Du EK Bs) ds h else .stuck
theorem Zbx (c_switched:CaE P w K mg base "switched" 9 Du) (c_lit_many:CaE P w K mg base "lit_many" 8 EK) (c_left_many:CaE P w K mg base "left_many" 10 Bs) {f:Addr} {fd:FuncData} (D:Dn K mg "is_best" ["board","switching"] Hx f fd):CaE P w K mg base "is_best" 11 CL:=
 ⟨f,fd,_,Be D.fn Zai (fun ds h e=>if_neg e) (fun ds h e=>if_pos e) (fun cdv A outer s H E hr=>ZaU B et c_switched c_lit_many c_left_many f cdv A outer s H E hr),D.bd,D.mg,D.fn.kp⟩
noncomputable def F_law:List D→HD→Out D:=fun ds h=>if ds.length=1 then Am 14 (Mk EF AD EI EH Bs Dc DO DR DP CL DQ EG Ct) ds h else .stuck
end
theorem _root_.LS.Sm.len {h h':HD} (s:Sm h h'):h.length≤h'.length:=by
 cases e:h.length with
 |zero=>exact DE _
 |succ n=>
  have hn:n<h.length:=by omega
  have:=s n h[n] (Bb hn)
  have:=(qa2.mp this).1
  omega
theorem sz {n:Nat} (hn:n≤8):(List.range n).length≤sizeLine:=by
 rw [List.length_range];unfold sizeLine;omega
open PySem.Builtin.Int in
theorem Zby {ns:List Int} {k:Nat} (hb:∀i∈ns,Builtin.Int.intBits i≤2^20) (hk:k≤1000):∃c:Int,Builtin.Int.intBits c≤2^20∧∀h,Pu (Fe [.scr ns,.int (k:Nat)] h) h (.int c):=by
 by_cases hl:k<ns.length
 ·refine ⟨ns[k],hb _ (Gq hl),fun h=>?_⟩
  change Wp (Am 2 L8 [.scr ns,.int (k:Nat)] h) _
  refine Eq.mpr (A4) ?_
  have:(k:Int)<ns.length:=by omega
  simp [this]
  refine Az (W4 (Bb hl)) ?_
  simp [Sm.refl]
 ·refine ⟨6151*(k:Int)+29,?_,fun h=>?_⟩
  ·rw [intBits_le_iff]
   have h1:(6151*(k:Int)+29).natAbs<2^30:=by omega
   exact A0 h1 (HE (by decide) (by omega))
  ·change Wp (Am 2 L8 [.scr ns,.int (k:Nat)] h) _
   refine Eq.mpr (A4) ?_
   have:¬(k:Int)<ns.length:=by omega
   simp [this]
   rw [JJ (by decide) (by decide)]
   simp [Sm.refl]
def SU (c:Int) (k:Nat):Int:=(((c+1)*40692+104729*(k:Int))*((c+1)*40692+104729*(k:Int))) % 2147483399+(k:Int)
theorem SV {h:HD}:Ie [.int 24] h=.ok ((List.range 24).map fun k=>D.int ((k:Nat):Int),[]) h:=Gd (n:=24) (by decide)
theorem Zbz {c:Int} {k:Nat} (hc:Builtin.Int.intBits c≤2^20) (hk:k≤1000):∃r:Int,∀h,Pu (Ff [.int c,.int (k:Nat)] h) h (.int r):=by
 refine ⟨SU c k*(SU c k+31) % 2147483563,fun h=>?_⟩
 change Wp (Am 3 OH [.int c,.int (k:Nat)] h) _
 refine Eq.mpr (A4) ?_
 have bX:Builtin.Int.intBits ((c+1)*40692+104729*(k:Int))≤16777216:=by
  have hk':Builtin.Int.intBits ((k:Nat):Int)≤10:=PySem.intBits_le_iff.mpr (by omega)
  have:=PySem.intBits_add_le (PySem.intBits_mul_le (PySem.intBits_add_le hc (show Builtin.Int.intBits 1≤1 by decide)) (show Builtin.Int.intBits 40692≤16 by decide)) (PySem.intBits_mul_le (show Builtin.Int.intBits 104729≤17 by decide) hk')
  exact Ca this (by decide)
 have h1:=Int.emod_nonneg (((c+1)*40692+104729*(k:Int))*((c+1)*40692+104729*(k:Int))) (show (2147483399:Int)≠0 by decide)
 have h2:=Int.emod_lt_of_pos (((c+1)*40692+104729*(k:Int))*((c+1)*40692+104729*(k:Int))) (show (0:Int)<2147483399 by decide)
 simp
 rw [Lg (by decide) (by decide)]
 simp
 rw [JJ (by decide) (by decide)]
 simp
 rw [W8 bX bX]
 simp
 rw [Iq (by decide)]
 simp
 rw [JJ (by omega) (by omega)]
 simp
 rw [Iq (by decide)]
 simp
 exact ⟨rfl,.refl _⟩
def BoxAt (h:HD) (b:Nat):Prop:=∃n:Int,h[b]?=some (.lst [.int n])
inductive SW (ns:List Int) (k:Nat) (c:Int) (h:HD) (xs:List Nat) (ρ:Aj) (h':HD):Prop where
 |mk (N:Int) (x:Option D) (f0:ρ=[some (.scr ns),some (.int (k:Nat)),some (.int c),some (.int N),x]) (f1:Sm h h') (f2:∀j∈xs,j<24):SW ns k c h xs ρ h'
theorem ZbA {ns:List Int} {k:Nat} {h:HD} {Q:D→HD→Prop} (hb:∀i∈ns,Builtin.Int.intBits i≤2^20) (hk:k≤1000) (q:∀l h',BoxAt h' l→h.length≤l→Sm h h'→Q (.loc l) h'):Wp (EF [.scr ns,.int (k:Nat)] h) Q:=by
 change Wp (Am 5 (OO Fe Ff) [.scr ns,.int (k:Nat)] h) _
 refine Eq.mpr (A4) ?_
 obtain ⟨c,bc,pc⟩:=Zby (k:=k) hb hk
 simp
 refine (pc h).wp fun h1 s1=>?_
 rw [Iq (by decide)]
 simp
 by_cases hz:c % 2=0
 ·simp [hz]
  rw [QU (by decide) (by decide)]
  simp
  exact A2 (by simp) fun l h' s e el _=>q l h' ⟨_,e⟩ (by have:=s1.len;omega) (s1.trans s)
 ·simp [hz]
  refine D8 (src:=[]) (xs:=List.range 24) (fun i=>.int ((i:Nat):Int)) (SW ns k c h) ?_ (fun ys ρ h' _=>DG) ?_ ?_
  ·simp [SV]
   exact ⟨_,_,rfl,s1,fun j hj=>qbM.mp hj⟩
  ·rintro x xs ρ h' ⟨N,y,rfl,sh,hx⟩
   refine ⟨_,rfl,?_⟩
   obtain ⟨m,pm⟩:=Zbz (k:=x) bc (by have:=hx x A8;omega)
   simp
   rw [Lg (by decide) (by decide)]
   simp
   refine (pm h').wp fun h2 s2=>?_
   simp [CV]
   exact ⟨_,_,rfl,sh.trans s2,fun j hj=>hx j (Bf _ hj)⟩
  ·rintro ρ h' ⟨N,y,rfl,sh,_⟩
   simp
   exact A2 (by simp) fun l h' s e el _=>q l h' ⟨_,e⟩ (by have:=sh.len;omega) (sh.trans s)
def Smx (b:Nat) (h h':HD):Prop:=∀(l:Nat) (c:Cell),l≠b→h[l]?=some c→h'[l]?=some c
theorem Smx.refl (b:Nat) (h:HD):Smx b h h:=fun _ _ _ e=>e
theorem Smx.trans {b:Nat} {h h1 h2:HD} (a:Smx b h h1) (c:Smx b h1 h2):Smx b h h2:=fun l x n e=>c l x n (a l x n e)
theorem Dv {b:Nat} {h h':HD} (s:Sm h h'):Smx b h h':=fun l c _ e=>s l c e
theorem J7 {b:Nat} {m:Int} {h:HD} {Q:D→HD→Prop} (hx:BoxAt h b) (h1:0<m) (h2:m<18446744073709551616) (q:∀d h',0≤d→d<m→BoxAt h' b→Smx b h h'→Q (.int d) h'):Wp (AD [.loc b,.int m] h) Q:=by
 change Wp (Am 4 OI [.loc b,.int m] h) _
 refine Eq.mpr (A4) ?_
 obtain ⟨N,e⟩:=hx
 simp
 rw [show (0:Int)=((0:Nat):Int) from rfl]
 refine Az (E3 e (k:=0) rfl) ?_
 simp
 refine Az (W9 h1 h2) ?_
 simp
 rw [show (0:Int)=((0:Nat):Int) from rfl]
 refine Az (W5 e (by simp)) ?_
 simp
 have hl:b<h.length:=(qa2.mp e).1
 refine q _ _ (Int.emod_nonneg _ (by omega)) (Int.emod_lt_of_pos _ h1) ⟨_,by rw [Cy hl]⟩ fun l c ne el=>?_
 rw [BV (Ne.symm ne)]
 exact el
theorem BoxAt.sm {b:Nat} {h h':HD} (x:BoxAt h b) (s:Sm h h'):BoxAt h' b:=let ⟨n,e⟩:=x;⟨n,s _ _ e⟩
theorem BoxAt.smx {a b:Nat} {h h':HD} (x:BoxAt h b) (s:Smx a h h') (ne:b≠a):BoxAt h' b:=let ⟨n,e⟩:=x;⟨n,s _ _ ne e⟩
theorem BoxAt.new {b:Nat} {h:HD} {c:Cell} (x:BoxAt h b):BoxAt (h++[c]) b:=x.sm (.app _ _)
def Plain (h:HD):D→Prop
 |.int _=>True
 |.bl _=>True
 |.non=>True
 |.str _=>True
 |.tup _=>True
 |.edic=>True
 |.loc l=>∃ds,h[l]?=some (.lst ds)
 |_=>False
theorem Plain.sm {h h':HD} {d:D} (p:Plain h d) (s:Sm h h'):Plain h' d:=by
 cases d with
 |loc l=>obtain ⟨ds,e⟩:=p;exact ⟨ds,s _ _ e⟩
 |_=>exact p
def A3:D→List D
 |.tup ds=>ds
 |_=>[]
def Plain2 (h:HD) (d:D):Prop:=Plain h d∧∀x∈A3 d,Plain h x
def Plain3 (h:HD) (d:D):Prop:=Plain h d∧∀x∈A3 d,Plain2 h x
theorem Plain2.sm {h h':HD} {d:D} (p:Plain2 h d) (s:Sm h h'):Plain2 h' d:=⟨p.1.sm s,fun x hx=>(p.2 x hx).sm s⟩
theorem Plain3.sm {h h':HD} {d:D} (p:Plain3 h d) (s:Sm h h'):Plain3 h' d:=⟨p.1.sm s,fun x hx=>(p.2 x hx).sm s⟩
def Fm:D→Bool
 |.int i=>decide (0≤i)&&decide (i≤1)
 |_=>false
def B8:D→Bool
 |.tup ds=>decide (1≤ds.length)&&decide (ds.length≤8)
 |_=>false
def BN (d:D):Bool:=B8 d&&(A3 d).all Fm
def DS (d:D):Nat:=(A3 d).length
def CM (d:D):Bool:=B8 d&&(A3 d).all BN&&(A3 d).all fun x=>DS x==DS ((A3 d).getD 0 .non)
theorem p_is_between_int {i a b:Int} {h:HD}:Pu (ED [.int i,.int a,.int b] h) h (.bl (decide (a≤i)&&decide (i≤b))):=by
 change Wp (Am 3 (L9 B1) [.int i,.int a,.int b] h) _
 refine Eq.mpr (A4) ?_
 have e:B1 [.int i] h=.ok (.bl true) h:=rfl
 simp [e]
 by_cases h1:a≤i<;>simp [h1,AG,Sm.refl]
theorem ZbB {d:D} {a b:Int} {h:HD} (e:B1 [d] h=.ok (.bl false) h):Pu (ED [d,.int a,.int b] h) h (.bl false):=by
 change Wp (Am 3 (L9 B1) [d,.int a,.int b] h) _
 refine Eq.mpr (A4) ?_
 simp [e,Sm.refl]
def Hz:D→Bool
 |.int _=>true
 |_=>false
theorem SY {d:D} {h:HD} (p:Plain h d):B1 [d] h=.ok (.bl (Hz d)) h:=by
 cases d with
 |loc l=>
  obtain ⟨ds,e⟩:=p
  have i1:AO (.loc l) (.ty "int") h=.ok (.bl false) h:=YF e
  have w:Wp (Am 1 OB [.loc l] h) fun d h'=>d=.bl false∧h'=h:=by
   refine Eq.mpr A4 ?_
   simp [-YE,i1]
  obtain ⟨a,h',e',rfl,rfl⟩:=Wp.ex w
  exact e'
 |tup ds=>rfl
 |int i=>rfl
 |bl b=>rfl
 |non=>rfl
 |str x=>rfl
 |edic=>rfl
 |_=>exact p.elim
theorem SZ {d:D} (h:Hz d=true):∃i,d=.int i:=by cases d<;>first |exact ⟨_,rfl⟩ |cases h
theorem ZbC {d:D} {h:HD} (p:Plain h d):Pu (Fi [d] h) h (.bl (Fm d)):=by
 change Wp (Am 1 (OV ED) [d] h) _
 refine Eq.mpr A4 ?_
 simp
 cases hw:Hz d with
 |true=>
  obtain ⟨i,rfl⟩:=SZ hw
  exact p_is_between_int.wp fun h' s=>⟨rfl,s⟩
 |false=>
  have e:=SY p
  rw [hw] at e
  have e2:Fm d=false:=by cases d<;>first |rfl |cases hw
  exact (ZbB e).wp fun h' s=>⟨by rw [e2],s⟩
def J8:D→Bool
 |.tup _=>true
 |_=>false
theorem O1 {d:D} {h:HD} (p:Plain h d):AO d (.ty "tuple") h=.ok (.bl (J8 d)) h:=by
 cases d with
 |loc l=>obtain ⟨ds,e⟩:=p;exact YG e
 |tup ds=>rfl
 |int i=>rfl
 |bl b=>rfl
 |non=>rfl
 |str x=>rfl
 |edic=>rfl
 |_=>exact p.elim
theorem O2 {d:D} (h:J8 d=true):∃ds,d=.tup ds:=by cases d<;>first |exact ⟨_,rfl⟩ |cases h
theorem S3 {d:D} {h:HD} (p:Plain h d):Pu (CK [d] h) h (.bl (B8 d)):=by
 change Wp (Am 1 OC [d] h) _
 refine Eq.mpr A4 ?_
 cases hT:J8 d with
 |true=>
  obtain ⟨ds,rfl⟩:=O2 hT
  have a1:(1:Int)≤ds.length↔1≤ds.length:=by omega
  have a2:(ds.length:Int)≤8↔ds.length≤8:=by omega
  by_cases h1:1≤ds.length
  ·by_cases h2:ds.length≤8
   ·simp [a1.mpr h1,a2.mpr h2,AG,Sm.refl,B8,h1,h2]
   ·have b2:¬(ds.length:Int)≤8:=by omega
    simp [a1.mpr h1,b2,AG,Sm.refl,B8,h1,h2]
  ·have b1:¬(1:Int)≤ds.length:=by omega
   simp [b1,AG,Sm.refl,B8,h1]
 |false=>
  have:B8 d=false:=by cases d<;>first |rfl |cases hT
  simp [O1 p,hT,this,Sm.refl]
theorem O3 {d:D} (h:B8 d=true):∃ds,d=.tup ds∧1≤ds.length∧ds.length≤8:=by
 cases d with
 |tup ds=>exact ⟨ds,rfl,by simpa [B8] using h⟩
 |_=>cases h
theorem ZbD {d:D} {h:HD} (p:Plain2 h d):Pu (Fj [d] h) h (.bl (BN d)):=by
 change Wp (Am 1 (OX CK Fi) [d] h) _
 refine Eq.mpr (A4) ?_
 simp
 refine (S3 p.1).wp fun h1 s1=>?_
 cases hl:B8 d with
 |false=>simp [BN,hl,s1]
 |true=>
  obtain ⟨ds,rfl,l1,l2⟩:=O3 hl
  simp
  refine Pu.wp (NC (src:=[]) (xs:=ds) (φ:=fun x=>x) Fm (fun x=>[some x]) (by rw [List.map_id'];exact Ip) (fun x _=>rfl) (fun x hx h' s'=>?_) (by unfold sizeLine;omega)) fun h2 s2=>?_
  ·simp [Pu]
   exact ZbC ((p.2 x hx).sm (s1.trans s'))
  ·simp [BN,hl,A3,s1.trans s2]
theorem S4 {d:D} {h:HD} (hl:B8 d=true):Bn d h=.ok (.int (DS d:Nat)) h:=by
 obtain ⟨ds,rfl,_,_⟩:=O3 hl
 simp [DS,A3]
theorem S5 {d:D} (h:BN d=true):B8 d=true:=by unfold BN at h;exact (Bool.and_eq_true_iff.mp h).1
theorem S6 {d:D} {h:HD} (p:Plain3 h d):Pu (EJ [d] h) h (.bl (CM d)):=by
 change Wp (Am 1 (OY CK Fj) [d] h) _
 refine Eq.mpr (A4) ?_
 simp
 refine (S3 p.1).wp fun h1 s1=>?_
 cases hl:B8 d with
 |false=>simp [CM,hl,s1]
 |true=>
  obtain ⟨ds,rfl,l1,l2⟩:=O3 hl
  simp
  refine Pu.wp (NC (src:=[]) (xs:=ds) (φ:=fun x=>x) BN (fun x=>[some x]) (by rw [List.map_id'];exact Ip) (fun x _=>rfl) (fun x hx h' s'=>?_) (by unfold sizeLine;omega)) fun h2 s2=>?_
  ·simp [Pu]
   exact ZbD ((p.2 x hx).sm (s1.trans s'))
  ·cases ha:ds.all BN with
   |false=>simp [CM,hl,A3,ha,s1.trans s2]
   |true=>
    simp
    have hr:∀x∈ds,BN x=true:=fun x hx=>qaL.mp ha x hx
    obtain ⟨d0,rest,rfl⟩:∃d0 rest,ds=d0::rest:=by
     cases ds with
     |nil=>simp at l1
     |cons a r=>exact ⟨a,r,rfl⟩
    refine Pu.wp (NC (src:=[]) (xs:=d0::rest) (φ:=fun x=>x) (fun x=>DS x==DS d0) (fun x=>[some x,some (.tup (d0::rest))]) (by rw [List.map_id'];exact Ip) (fun x _=>rfl) (fun x hx h' s'=>?_) (by unfold sizeLine;omega)) fun h3 s3=>?_
    ·simp [Pu]
     rw [S4 (S5 (hr x hx))]
     simp
     rw [show (0:Int)=((0:Nat):Int) from rfl]
     refine Az (ix_tup (k:=0) rfl) ?_
     simp
     rw [S4 (S5 (hr d0 A8))]
     simp [Sm.refl]
     rw [qbD]
     simp
     omega
    ·have:(d0::rest).all BN=true:=ha
     simp only [CM,hl,A3,this,Bool.true_and]
     refine ⟨?_,(s1.trans s2).trans s3⟩
     simp
theorem ZbE {d:D} {h:HD} (p:Plain3 h d) (hb:CM d=true):Pu (Bk [d] h) h .non:=by
 change Wp (Am 1 (Mb EJ) [d] h) _
 refine Eq.mpr (A4) ?_
 simp
 refine (S6 p).wp fun h1 s1=>?_
 simp [hb,s1]
theorem O4 {d:D} {h:HD} (p:Plain3 h d) (hb:CM d=false):Er (Bk [d] h) h "NoBoard":=by
 change We (Am 1 (Mb EJ) [d] h) _ _
 refine Eq.mpr (Ey) ?_
 simp
 refine (S6 p).we fun h1 s1=>?_
 simp [hb,s1,Es]
def lit (x:Bool):D:=.int (if x then 1 else 0)
def AK (w:Nat) (f:Nat→Bool):D:=.tup ((List.range w).map fun j=>lit (f j))
def bD (h w:Nat) (f:Nat→Nat→Bool):D:=.tup ((List.range h).map fun i=>AK w (f i))
section
variable {H W:Nat} {h:HD} {f:Nat→Nat→Bool} {r:Nat→Bool}
theorem ZbF {x:Bool}:Fm (lit x)=true:=by cases x<;>rfl
theorem Ml:Plain2 h (AK W r):=⟨trivial,fun x hx=>by
 simp only [AK,A3,qaT] at hx
 obtain ⟨j,_,rfl⟩:=hx
 exact trivial⟩
theorem ZbG:Plain3 h (bD H W f):=⟨trivial,fun x hx=>by
 simp only [bD,A3,qaT] at hx
 obtain ⟨j,_,rfl⟩:=hx
 exact Ml⟩
theorem S7 {ds:List D} (h1:1≤ds.length) (h2:ds.length≤8):B8 (.tup ds)=true:=by simp [B8,h1,h2]
theorem ZbH (hw:1≤W∧W≤8):BN (AK W r)=true:=by
 unfold BN
 rw [CP]
 refine ⟨S7 (by simp;omega) (by simp;omega),qaL.mpr fun x hx=>?_⟩
 simp only [AK,A3,qaT] at hx
 obtain ⟨j,_,rfl⟩:=hx
 exact ZbF
theorem Mm:DS (AK W r)=W:=by simp [DS,AK,A3]
theorem ZbI (hh:1≤H∧H≤8) (hw:1≤W∧W≤8):CM (bD H W f)=true:=by
 unfold CM
 rw [CP,CP]
 refine ⟨⟨S7 (by simp;omega) (by simp;omega),qaL.mpr fun x hx=>?_⟩,qaL.mpr fun x hx=>?_⟩
 ·simp only [bD,A3,qaT] at hx
  obtain ⟨j,_,rfl⟩:=hx
  exact ZbH hw
 ·simp only [bD,A3,qaT] at hx ⊢
  obtain ⟨j,_,rfl⟩:=hx
  have:((List.range H).map fun i=>AK W (f i)).getD 0 .non=AK W (f 0):=by
   rw [EL,Ck,HG (by omega)];rfl
  rw [this,Mm,Mm]
  simp
theorem O5 (hh:1≤H∧H≤8) (hw:1≤W∧W≤8):Pu (Bk [bD H W f] h) h .non:=ZbE ZbG (ZbI hh hw)
end
section
variable {h:HD}
theorem S8:Jr (.int 10) (.int 29) h=.ok (.int (10^29)) h:=by
 simp only [Jr,LS.intD]
 rw [if_pos (by decide)]
 rfl
variable {H W:Nat} {f:Nat→Nat→Bool} {r:Nat→Bool}
theorem J9:Bn (bD H W f) h=.ok (.int (H:Nat)) h:=by simp [bD]
theorem O6:Bn (AK W r) h=.ok (.int (W:Nat)) h:=by simp [AK]
theorem ZbJ {k:Nat} (hk:k<H):AC (bD H W f) (.int (k:Nat)) h=.ok (AK W (f k)) h:=Lf hk
theorem Mn (hk:1≤H):AC (bD H W f) (.int 0) h=.ok (AK W (f 0)) h:=QP (by omega)
def NoRowD (h:HD) (H W:Nat) (x:D):Prop:=Plain2 h x∧(BN x=false∨(1<H∧DS x≠W))
def Dh (H W:Nat) (f:Nat→Nat→Bool) (A:Nat) (x:D):D:=.tup (((List.range H).map fun i=>AK W (f i)).take A++[x]++((List.range H).map fun i=>AK W (f i)).drop (A+1))
theorem ZbK {A:Nat} {x y:D} (hy:y∈A3 (Dh H W f A x)):y=x∨∃i,y=AK W (f i):=by
 simp only [Dh,A3,Kk,qaW,qa4,Cz,or_false] at hy
 rcases hy with hy |hy |hy
 ·have:=Ki hy
  simp at this
  obtain ⟨i,_,rfl⟩:=this
  exact .inr ⟨i,rfl⟩
 ·exact .inl hy
 ·have:=MM hy
  simp at this
  obtain ⟨i,_,rfl⟩:=this
  exact .inr ⟨i,rfl⟩
theorem ZbL {A:Nat} {x:D} (hx:Plain2 h x):Plain3 h (Dh H W f A x):=⟨trivial,fun y hy=>by
 rcases ZbK hy with rfl |⟨i,rfl⟩
 ·exact hx
 ·exact Ml⟩
theorem ZbM {A:Nat} {x:D} (hA:A<H) (hx:NoRowD h H W x):CM (Dh H W f A x)=false:=by
 have hm:x∈A3 (Dh H W f A x):=by simp [Dh,A3]
 rcases hx.2 with hr |⟨h1,hl⟩
 ·unfold CM
  rw [show (A3 (Dh H W f A x)).all BN=false from by
   rw [IZ]
   exact ⟨x,hm,by rw [hr];simp⟩]
  simp
 ·unfold CM
  rw [show ((A3 (Dh H W f A x)).all fun y=>DS y==DS ((A3 (Dh H W f A x)).getD 0 .non))=false from ?_]
  ·simp
  rw [IZ]
  have lenA:(((List.range H).map fun i=>AK W (f i)).take A).length=A:=by simp;omega
  by_cases hA0:A=0
  ·subst hA0
   have e0:(A3 (Dh H W f 0 x)).getD 0 .non=x:=by simp [Dh,A3]
   rw [e0]
   have h2:((List.range H).map fun i=>AK W (f i)).drop 1≠[]:=by
    intro z
    have:=congrArg List.length z
    simp at this
    omega
   obtain ⟨y,hy⟩:=List.exists_mem_of_ne_nil _ h2
   refine ⟨y,by simp only [Dh,A3];exact qaW.mpr (.inr hy),?_⟩
   have:=MM hy
   simp at this
   obtain ⟨i,_,rfl⟩:=this
   rw [Mm]
   simpa using fun z=>hl z.symm
  ·have e0:(A3 (Dh H W f A x)).getD 0 .non=AK W (f 0):=by
    simp only [Dh,A3,Kk]
    rw [EL,Fo (by rw [lenA];omega),List.getElem?_take,if_pos (by omega),Ck,HG (by omega)]
    rfl
   rw [e0,Mm]
   exact ⟨x,hm,by simpa using hl⟩
theorem O7 {ds:List D} {x:D} (hx:x∈ds) (hr:BN x=false):CM (.tup ds)=false:=by
 unfold CM
 rw [show (A3 (.tup ds)).all BN=false from by
  rw [IZ]
  exact ⟨x,hx,by rw [hr];simp⟩]
 simp
theorem S9 {d:D} (hl:B8 d=false):CM d=false:=by unfold CM;rw [hl];simp
theorem ZbN (hh:1≤H):BN (bD H W f)=false:=by
 unfold BN
 rw [show (A3 (bD H W f)).all Fm=false from by
  rw [IZ]
  exact ⟨AK W (f 0),by simp [bD,A3];exact ⟨0,by omega,rfl⟩,by simp [AK,Fm]⟩]
 simp
theorem ZbO (hw:1≤W):CM (AK W r)=false:=O7 (x:=lit (r 0)) (by simp;exact ⟨0,by omega,rfl⟩) (by simp [BN,lit,B8])
def NoB (h:HD) (d:D):Prop:=Plain3 h d∧CM d=false
theorem NoB.sm {h':HD} {d:D} (n:NoB h d) (s:Sm h h'):NoB h' d:=⟨n.1.sm s,n.2⟩
end
theorem Plain.smx {b:Nat} {h h':HD} {d:D} (p:Plain h d) (s:Smx b h h') (x:BoxAt h' b):Plain h' d:=by
 cases d with
 |loc l=>
  obtain ⟨ds,e⟩:=p
  by_cases hl:l=b
  ·obtain ⟨n,e'⟩:=x
   exact ⟨_,hl ▸ e'⟩
  ·exact ⟨ds,s _ _ hl e⟩
 |_=>exact p
theorem Plain2.smx {b:Nat} {h h':HD} {d:D} (p:Plain2 h d) (s:Smx b h h') (x:BoxAt h' b):Plain2 h' d:=⟨p.1.smx s x,fun y hy=>(p.2 y hy).smx s x⟩
theorem Plain3.smx {b:Nat} {h h':HD} {d:D} (p:Plain3 h d) (s:Smx b h h') (x:BoxAt h' b):Plain3 h' d:=⟨p.1.smx s x,fun y hy=>(p.2 y hy).smx s x⟩
theorem NoB.smx {b:Nat} {h h':HD} {d:D} (n:NoB h d) (s:Smx b h h') (x:BoxAt h' b):NoB h' d:=⟨n.1.smx s x,n.2⟩
def TabAt (h:HD):Prop:=h[0]?=some .tab
theorem TabAt.sm {h h':HD} (t:TabAt h) (s:Sm h h'):TabAt h':=s _ _ t
theorem TabAt.smx {b:Nat} {h h':HD} (t:TabAt h) (s:Smx b h h') (hb:0<b):TabAt h':=s _ _ (by omega) t
theorem TabAt.pos {h:HD} (t:TabAt h):0<h.length:=(qa2.mp t).1
theorem FN {b:Nat} {m:Int} {h:HD} {Q:D→HD→Prop} (hx:BoxAt h b) (hb:0<b) (ht:TabAt h) (h1:0<m) (h2:m≤1000) (q:∀(d:Nat) h',(d:Int)<m→BoxAt h' b→TabAt h'→Smx b h h'→Q (.int (d:Nat)) h'):Wp (AD [.loc b,.int m] h) Q:=
 J7 hx (by omega) (by omega) fun d h' d0 d1 x s=>by
  obtain ⟨k,rfl⟩:∃k:Nat,d=(k:Int):=⟨d.toNat,by omega⟩
  exact q k h' (by omega) x (ht.smx s hb) s
theorem BoxAt.lt {b:Nat} {h:HD} (x:BoxAt h b):b<h.length:=let ⟨_,e⟩:=x;(qa2.mp e).1
@[simp] theorem ZfV {ρ:Aj} {a b:D} {i j:Nat}:GS [i,j] (.tup [a,b]) ρ=some ((ρ.set i (some a)).set j (some b)):=id rfl
theorem FO {xs ys:List D} {h:HD} (hz:xs.length+ys.length≤1000):AL (.tup xs) (.tup ys) h=.ok (.tup (xs++ys)) h:=by
 simp only [AL]
 rw [if_pos (by unfold sizeLine;omega)]
theorem ZbP {ds:List D} {x:D} (hx:x∈ds) (hl:Fm x=false):BN (.tup ds)=false:=by
 unfold BN
 rw [show (A3 (.tup ds)).all Fm=false from by
  rw [IZ]
  exact ⟨x,hx,by rw [hl];simp⟩]
 simp
theorem ZbQ {d:D} (hl:B8 d=false):BN d=false:=by unfold BN;rw [hl];simp
theorem Ta {ds:List D} (hl:8<ds.length):B8 (.tup ds)=false:=by
 have:¬ds.length≤8:=by omega
 simp [B8,this]
theorem ZbR {h:HD} {W:Nat} {r:Nat→Bool} {x:D} (hx:x∈(List.range W).map fun j=>lit (r j)):Plain h x:=by
 simp only [qaT] at hx
 obtain ⟨j,_,rfl⟩:=hx
 exact trivial
theorem CN {P:D→Prop}:∀d∈([]:List D),P d:=fun d hd=>by cases hd
theorem all_cons {P:D→Prop} {a:D} {l:List D} (h:P a) (t:∀d∈l,P d):∀d∈a::l,P d:=fun d hd=>by
 rcases qa4.mp hd with rfl |hd
 ·exact h
 ·exact t d hd
theorem IU {P:D→Prop} {l r:List D} (h:∀d∈l,P d) (t:∀d∈r,P d):∀d∈l++r,P d:=fun d hd=>by
 rcases qaW.mp hd with hd |hd
 ·exact h d hd
 ·exact t d hd
theorem O8 (P:D→Prop) {l o:Nat} {ds:List D} {h:HD} (e:h[l]?=some (.lst ds)) (ho:o<ds.length) (hp:∀d∈ds,P d):∃y,AC (.loc l) (.int (o:Nat)) h=.ok y h∧P y:=
 ⟨ds[o],E3 e (Bb ho),hp _ (Gq ho)⟩
theorem IV {h:HD} {d:D} (p:Plain h d) (e:A3 d=[]):Plain2 h d:=⟨p,fun x hx=>by rw [e] at hx;cases hx⟩
theorem O9 {h:HD} {d:D} (p:Plain h d) (e:A3 d=[]):Plain3 h d:=⟨p,fun x hx=>by rw [e] at hx;cases hx⟩
def ZbS (h:HD) (H W l:Nat):Prop:=∃ds:List D,h[l]?=some (.lst ds)∧ds.length≤10∧∀d∈ds,NoRowD h H W d
theorem NoRowD.sm {h h':HD} {H W:Nat} {d:D} (n:NoRowD h H W d) (s:Sm h h'):NoRowD h' H W d:=⟨n.1.sm s,n.2⟩
noncomputable abbrev ZbT:MS:=Ak (Aw 7 (AX [none,some 1,some 2] (Bq (Ab 7)) (A5 0) (Br) (Ah AL (Ah AL (Fb (Ab 1) (FG) (E5 (Ab 2))) (AW (Aa (Ab 0) (Ad)))) (Fb (Ab 1) (E5 (Ah AL (Ab 2) (mC (.int 1)))) (FG))))) (Ak (Aw 7 (Ah AL (Ab 7) (Ba (Aa (Ag (An listOfD) (Aa (Ab 1) (Ad))) (Aa (AW (Aa (Ab 1) (Ad))) (Aa (Ah Cf (AW (Aa (Ah AC (Ab 1) (mC (.int 0))) (Ad))) (mC (.int 9))) (Aa (Ah AL (Ab 1) (AW (Aa (AW (Ad)) (Ad)))) (Aa (Ah AC (Ab 1) (mC (.int 0))) (Aa (mC .non) (Aa (AW (Ad)) (Aa (mC (.int 0)) (Aa (mC (.str "")) (Aa (mC .edic) (Ad)))))))))))))) (Av (Ah AC (Ab 7) (Ag AD (Aa (Ab 0) (Aa (Ag (An Bn) (Aa (Ab 7) (Ad))) (Ad)))))))
theorem Tb {R:List D} {h:HD}:listOfD (.tup R) h=B6 R h:=rfl
theorem NoB.tup {h:HD} {ds:List D} (hp:∀x∈ds,Plain2 h x) (hb:CM (.tup ds)=false):NoB h (.tup ds):=⟨⟨trivial,hp⟩,hb⟩
theorem Tc {b H W A l:Nat} {f:Nat→Nat→Bool} {h:HD} {c3 c4 c5 c6:Option D} {Q:D→HD→Prop} (hx:BoxAt h b) (hb:0<b) (ht:TabAt h) (hh:1≤H∧H≤8) (hw:1≤W∧W≤8) (hA:A<H) (hn:ZbS h H W l)
 (q:∀d h',NoB h' d→BoxAt h' b→TabAt h'→Smx b h h'→Q d h'):Wp (ZbT [some (.loc b),some (bD H W f),some (.int (A:Nat)),c3,c4,c5,c6,some (.loc l)] h) (JE Q):=by
 obtain ⟨ds,el,ln,hn⟩:=hn
 try simp [-Ai]
 refine E2 (src:=[(l,ds)]) (xs:=ds) (φ:=fun x=>x) (fun _=>true) (fun x=>Dh H W f A x) (fun x=>[some x,some (bD H W f),some (.int (A:Nat))]) ?_ (by unfold sizeLine;omega) (fun x _=>rfl) (fun x hx h' s'=>.ok) (fun x hx _ h' s'=>?_) fun l7 h7 s7 e7=>?_
 ·simp
  refine Az (GO el) ?_
  simp [Sm.refl]
  exact fun h2 s2=>GH (s2 _ _ el)
 ·simp [Pu]
  rw [bD]
  refine Az (RW (by simp;omega)) ?_
  simp
  refine Az (FO (by simp;omega)) ?_
  simp
  refine Az (RX (k:=A) (by omega) (by simp;omega)) ?_
  simp
  refine Az (FO (by simp;omega)) ?_
  simp [Dh,Sm.refl]
 rw [Ge] at e7
 refine Eq.mpr (Ai) ?_
 simp [-Ai,Mn hh.1]
 obtain ⟨R,eR,lR,pR⟩:∃R:List D,bD H W f=.tup R∧R.length=H∧∀x∈R,∀h,Plain2 h x:=⟨_,rfl,by simp,fun x hx h=>by
  simp only [qaT] at hx
  obtain ⟨j,_,rfl⟩:=hx
  exact Ml⟩
 rw [eR]
 refine Az (Tb) ?_
 refine A2 (by unfold sizeLine;omega) fun l8 h8 s8 e8 _ _=>?_
 rw [show (9:Int)=((9:Nat):Int) from rfl]
 refine Az (RT (by simp) (by simp)) ?_
 try simp [-Ai]
 refine Az (FO (by simp;omega)) ?_
 rw [B7]
 refine A2 (by simp) fun l9 h9 s9 e9 _ _=>?_
 try simp [-Ai]
 refine Az (JS (s9 _ _ (s8 _ _ e7)) e9) ?_
 refine A2 (by simp;unfold sizeLine;omega) fun l10 h10 s10 e10 el10 _=>?_
 have s:=((s7.trans s8).trans s9).trans s10
 obtain ⟨L,eL,lL,nL⟩:∃L:List D,h10[l10]?=some (.lst L)∧L.length=ds.length+10∧∀d∈L,NoB h10 d:=by
  have s8':=s9.trans s10
  have pl:∀x∈R,Plain2 h10 x:=fun x hx=>pR x hx h10
  have flat:∀{x:D},Plain h10 x→A3 x=[]→B8 x=false→NoB h10 x:=fun p e l=>⟨O9 p e,S9 l⟩
  refine ⟨_,e10,by simp,IU (fun d hm=>?_) <| all_cons (flat ⟨_,s8' _ _ e8⟩ rfl rfl) <| all_cons (.tup (all_cons ⟨trivial,fun y hy=>(pl y hy).1⟩ CN) (O7 (x:=.tup R) A8 (by rw [←eR];exact ZbN hh.1))) <|
   all_cons (.tup (fun x hx=>?_) (S9 (Ta (by simp)))) <| all_cons (.tup (IU pl (all_cons (IV trivial rfl) CN)) (O7 (x:=.tup []) (by simp) rfl)) <|
   all_cons ⟨⟨trivial,fun x hx=>?_⟩,ZbO hw.1⟩ <| all_cons (flat trivial rfl rfl) <| all_cons (flat trivial rfl rfl) <| all_cons (flat trivial rfl rfl) <| all_cons (flat trivial rfl rfl) <| all_cons (flat trivial rfl rfl) CN⟩
  ·obtain ⟨x,hx1,ex⟩:=qaT.mp hm
   rw [←ex]
   have:=(hn x hx1).sm s
   exact ⟨ZbL this.1,ZbM hA this⟩
  ·rw [show x=_ from MK (n:=9) hx]
   exact Ml
  ·obtain ⟨j,_,rfl⟩:=qaT.mp hx
   exact IV trivial rfl
 refine Eq.mpr (Ai) ?_
 try simp [-Ai]
 refine Az (XH eL) ?_
 try simp [-Ai]
 refine FN (hx.sm s) hb (ht.sm s) (by omega) (by omega) fun d h11 ld x11 t11 s11=>?_
 have n10:l10≠b:=by have:=(((hx.sm s7).sm s8).sm s9).lt;omega
 have hd:d<L.length:=by omega
 refine Az (E3 (s11 _ _ n10 eL) (Bb hd)) ?_
 exact q _ _ ((nL _ (Gq hd)).smx s11 x11) x11 t11 ((Dv s).trans s11)
theorem ZbU {b H W:Nat} {f:Nat→Nat→Bool} {h:HD} {Q:D→HD→Prop} (hx:BoxAt h b) (hb:0<b) (ht:TabAt h) (hh:1≤H∧H≤8) (hw:1≤W∧W≤8) (q:∀d h',NoB h' d→BoxAt h' b→TabAt h'→Smx b h h'→Q d h'):Wp (EG [.loc b,bD H W f] h) Q:=by
 change Wp (Am 8 (OQ AD) [.loc b,bD H W f] h) _
 refine Eq.mpr (A4) ?_
 simp [-Ai,J9,Mn hh.1,O6]
 refine FN hx hb ht (by omega) (by omega) fun A h1 lA x1 t1 s1=>?_
 refine FN x1 hb t1 (by omega) (by omega) fun B h2 lB x2 t2 s2=>?_
 have hA:A<H:=by omega
 have hB:B<W:=by omega
 try simp [-Ai]
 refine Eq.mpr (Ai) ?_
 try simp [-Ai,S8]
 refine A2 (by simp) fun l3 h3 s3 e3 el3 _=>?_
 try simp [-Ai]
 refine A2 (by simp) fun l4 h4 s4 e4 el4 _=>?_
 have x4:BoxAt h4 b:=(x2.sm s3).sm s4
 have t4:TabAt h4:=(t2.sm s3).sm s4
 have n3:l3≠b:=by have:=x2.lt;omega
 have n4:l4≠b:=by have:=(x2.sm s3).lt;omega
 try simp [-Ai]
 refine FN x4 hb t4 (by decide) (by decide) fun o h5 l2 x5 t5 s5=>?_
 have e4':=s5 _ _ n4 e4
 have e3':=s5 _ _ n3 (s4 _ _ e3)
 obtain ⟨y,ey,py,ly⟩:=O8 (fun y=>Plain h5 y∧Fm y=false) (o:=o) e4' (by simp;omega) <| all_cons ⟨trivial,rfl⟩ <| all_cons ⟨trivial,rfl⟩ <| all_cons ⟨trivial,rfl⟩ <| all_cons ⟨trivial,rfl⟩ <| all_cons ⟨trivial,rfl⟩ <| all_cons ⟨trivial,rfl⟩ <| all_cons ⟨trivial,rfl⟩ <| all_cons ⟨trivial,by decide⟩ <| all_cons ⟨⟨_,e3'⟩,rfl⟩ <| all_cons ⟨trivial,rfl⟩ CN
 refine Az (ey) ?_
 rw [B7]
 refine Eq.mpr (Ai) ?_
 try simp [-Ai]
 refine Az (ZbJ hA) ?_
 rw [B7]
 refine Eq.mpr (Ai) ?_
 have S:Smx b h h5:=(((s1.trans s2).trans (Dv s3)).trans (Dv s4)).trans s5
 clear ey
 generalize hr:f A=r
 obtain ⟨R,eR,lR,pR⟩:∃R:List D,AK W r=.tup R∧R.length=W∧∀x∈R,∀h,Plain h x:=⟨_,rfl,by simp,fun x hx h=>ZbR hx⟩
 rw [eR]
 try simp [-Ai]
 refine Az (RW (by omega)) ?_
 try simp [-Ai]
 refine Az (FO (by simp;omega)) ?_
 try simp [-Ai]
 refine Az (RX (k:=B) (by omega) (by omega)) ?_
 try simp [-Ai]
 refine Az (FO (by simp;omega)) ?_
 rw [B7]
 refine Eq.mpr (Ai) ?_
 try simp [-Ai]
 rw [show (8:Int)=((8:Nat):Int) from rfl]
 refine Az (RT (by simp) (by simp)) ?_
 try simp [-Ai]
 refine Az (FO (by simp;omega)) ?_
 rw [B7]
 refine Az (Tb) ?_
 refine A2 (by unfold sizeLine;omega) fun l6 h6 s6 e6 _ _=>?_
 refine A2 (by simp) fun l7 h7 s7 e7 _ _=>?_
 refine Eq.mpr (Ai) ?_
 have hS7:Smx b h h7:=(S.trans (Dv s6)).trans (Dv s7)
 have x7:=(x5.sm s6).sm s7
 have t7:=(t5.sm s6).sm s7
 have py7:Plain h7 y:=(py.sm s6).sm s7
 have base:∀d∈[D.tup (List.take B R++y::List.drop (B+1) R),D.tup (List.take B R++y::List.drop (B+1) R),D.tup (List.take B R++y::List.drop (B+1) R),D.tup (R++[D.int 0,D.int 0,D.int 0,D.int 0,D.int 0,D.int 0,D.int 0,D.int 0]),D.tup [],D.loc l6,D.non,D.int 1],NoRowD h7 H W d:=by
  have pt:∀ds:List D,(∀x∈ds,Plain h7 x)→BN (.tup ds)=false→NoRowD h7 H W (.tup ds):=fun ds hd hr=>⟨⟨trivial,hd⟩,.inl hr⟩
  have bent:NoRowD h7 H W (.tup (List.take B R++y::List.drop (B+1) R)):=by
   refine pt _ (fun x hx=>?_) (ZbP (x:=y) (by simp) ly)
   rcases qaW.mp hx with z |z
   ·exact pR x (Ki z) _
   ·rcases qa4.mp z with z |z
    ·exact z ▸ py7
    ·exact pR x (MM z) _
  refine all_cons bent <| all_cons bent <| all_cons bent <| all_cons (pt _ (IU (fun x z=>pR x z _) fun x hx=>?_) (ZbQ (Ta (by simp;omega)))) <| all_cons (pt _ CN rfl) <| all_cons ⟨IV ⟨_,s7 _ _ e6⟩ rfl,.inl rfl⟩ <| all_cons ⟨IV trivial rfl,.inl rfl⟩ <| all_cons ⟨IV trivial rfl,.inl rfl⟩ CN
  rw [show x=_ from MK (n:=8) hx]
  exact trivial
 refine Eq.mpr (Cp) ?_
 by_cases h1:1<H
 ·have h1':(1:Int)<(H:Int):=by omega
  simp [-Ai,J9,h1',h1]
  refine Az (YQ (by omega)) ?_
  try simp [-Ai]
  refine Az (FO (by simp;omega)) ?_
  try simp [-Ai]
  refine A2 (by simp) fun l8 h8 s8 e8 _ _=>?_
  try simp [-Ai]
  refine Az (JS (s8 _ _ e7) e8) ?_
  refine A2 (by simp) fun l9 h9 s9 e9 _ _=>?_
  refine Eq.mpr (Ai) ?_
  have s79:=s8.trans s9
  refine Tc (x7.sm s79) hb (t7.sm s79) hh hw hA ⟨_,e9,by simp,fun d hd=>?_⟩ fun d h' n x t s'=>q d h' n x t ((hS7.trans (Dv s79)).trans s')
  rcases qaW.mp hd with z |z
  ·exact (base d z).sm s79
  ·simp only [qa4,Cz,or_false] at z
   rcases z with rfl |rfl
   ·refine ⟨⟨trivial,fun x hx=>pR x (Ki hx) _⟩,.inr ⟨h1,?_⟩⟩
    simp [DS,A3]
    omega
   ·refine ⟨⟨trivial,fun x hx=>?_⟩,.inr ⟨h1,?_⟩⟩
    ·rcases qaW.mp hx with z |z
     ·exact pR x z _
     ·simp only [qa4,Cz,or_false] at z
      subst z
      exact trivial
    ·simp [DS,A3]
     omega
 ·have h1':¬(1:Int)<(H:Int):=by omega
  simp [-Ai,J9,h1',h1]
  refine Eq.mpr (Ai) ?_
  exact Tc x7 hb t7 hh hw hA ⟨_,e7,by simp,base⟩ fun d h' n x t s'=>q d h' n x t (hS7.trans s')
theorem Pa {i:Int} {h:HD}:B1 [.int i] h=.ok (.bl true) h:=rfl
def Di (n:Nat):Int→List D→Bool
 |_,[]=>true
 |last,.int i::ds=>decide (last<i∧i<(n:Int))&&Di n i ds
 |_,_::_=>false
def CO (n:Nat) (d:D):Bool:=match d with
 |.tup ds=>Di n (-1) ds
 |_=>false
theorem Pb {n:Nat} {last:Int} {x:D} {xs:List D} (h:Hz x=false):Di n last (x::xs)=false:=by
 cases x<;>first |rfl |(cases h)
inductive Td (ds:List D) (n:Nat) (h:HD) (xs:List D) (ρ:Aj) (h':HD):Prop where
 |mk (last:Int) (x:Option D) (f0:ρ=[some (.tup ds),some (.int (n:Nat)),some (.int last),x]) (f1:h'=h) (f2:Di n last xs=Di n (-1) ds) (f3:∀y∈xs,Plain h y):Td ds n h xs ρ h'
theorem Te {d:D} {n:Nat} {h:HD} (p:Plain2 h d):Pu (Ec [d,.int (n:Nat)] h) h (.bl (CO n d)):=by
 change Wp (Am 4 (ON B1) [d,.int (n:Nat)] h) _
 refine Eq.mpr A4 ?_
 cases hT:J8 d with
 |true=>
  obtain ⟨ds,rfl⟩:=O2 hT
  simp
  refine D8 (src:=[]) (xs:=ds) (fun x=>x) (Td ds n h) ?_ (fun ys ρ h' _=>DG) ?_ ?_
  ·simp
   exact ⟨-1,_,rfl,rfl,rfl,p.2⟩
  ·rintro x xs ρ h' ⟨last,y,rfl,rfl,e,pl⟩
   refine ⟨_,rfl,?_⟩
   have px:=pl x A8
   cases hx:Hz x with
   |false=>
    simp [SY px,hx,CV,Sm.refl]
    rw [Pb hx] at e
    simp [CO,←e]
   |true=>
    obtain ⟨i,rfl⟩:=SZ hx
    by_cases h1:last<i
    ·by_cases h2:i<(n:Int)
     ·simp [Pa,h1,h2,AG,CV]
      exact ⟨i,_,rfl,rfl,by rw [←e];simp [Di,h1,h2],fun y hy=>pl y (Bf _ hy)⟩
     ·simp [Pa,h1,h2,AG,CV,Sm.refl]
      simp [CO,←e,Di,h1,h2]
    ·simp [Pa,h1,AG,CV,Sm.refl]
     simp [CO,←e,Di,h1]
  ·rintro ρ h' ⟨last,y,rfl,rfl,e,_⟩
   simp [Sm.refl,CO,←e,Di]
 |false=>
  have e:CO n d=false:=by cases d<;>first |rfl |cases hT
  simp [O1 p.1,hT,e,Sm.refl]
def DB (H W:Nat) (d:D):Bool:=match d with
 |.tup [a,b]=>CO H a&&CO W b
 |_=>false
section
variable {H W:Nat} {h:HD} {f:Nat→Nat→Bool}
theorem Tf {d:D} (hh:1≤H∧H≤8) (hw:1≤W∧W≤8) (p:Plain3 h d):Pu (Dz [bD H W f,d] h) h (.bl (DB H W d)):=by
 change Wp (Am 2 (Mc Bk Ec) [bD H W f,d] h) _
 refine Eq.mpr A4 ?_
 simp
 refine (O5 hh hw).wp fun h1 s1=>?_
 have p1:=p.sm s1
 cases hT:J8 d with
 |true=>
  obtain ⟨ds,rfl⟩:=O2 hT
  by_cases h2:ds.length=2
  ·obtain ⟨a,b,rfl⟩:∃a b,ds=[a,b]:=by
    match ds,h2 with
    |[a,b],_=>exact ⟨a,b,rfl⟩
   simp [bD]
   refine (Te (p1.2 a (by simp [A3]))).wp fun h2 s2=>?_
   cases ha:CO H a with
   |false=>simp [DB,ha,s1.trans s2]
   |true=>
    simp
    refine Az (QP (by omega)) ?_
    simp [AK]
    refine (Te ((p1.2 b (by simp [A3])).sm s2)).wp fun h3 s3=>?_
    simp [DB,ha,(s1.trans s2).trans s3]
  ·have e2:DB H W (.tup ds)=false:=by
    match ds,h2 with
    |[],_=>rfl
    |[_],_=>rfl
    |_::_::_::_,_=>rfl
   have e3:¬((ds.length:Int)=2):=by omega
   simp [e2,e3,s1]
 |false=>
  have e:DB H W d=false:=by cases d<;>first |rfl |cases hT
  simp [O1 p1.1,hT,e,s1]
theorem ZbV {d:D} (hh:1≤H∧H≤8) (hw:1≤W∧W≤8) (p:Plain3 h d) (hs:DB H W d=false):Er (DA [bD H W f,d] h) h "NoSwitching":=by
 change We (Am 2 (J6 Dz) [bD H W f,d] h) _ _
 refine Eq.mpr Ey ?_
 simp
 refine (Tf hh hw p).we fun h1 s1=>?_
 simp [hs,s1,Es]
theorem Tg {d x:D} {c:Str} (e:Er (DA [d,x] h) h c):Er (Du [d,x] h) h c:=by
 change We (Am 4 (Mf DA Ez) [d,x] h) _ _
 refine Eq.mpr Ey ?_
 simp
 exact e.we fun h1 s1=>⟨rfl,rfl,s1⟩
theorem ZbW {d:D} (hh:1≤H∧H≤8) (hw:1≤W∧W≤8) (p:Plain3 h d) (hs:DB H W d=false):Er (Du [bD H W f,d] h) h "NoSwitching":=Tg (ZbV hh hw p hs)
end
def AH (n:Nat) (p:Nat→Bool):D:=.tup (((List.range n).filter p).map fun i=>.int ((i:Nat):Int))
def BO (h w:Nat) (p q:Nat→Bool):D:=.tup [AH h p,AH w q]
section
variable {H W n:Nat} {h:HD} {f:Nat→Nat→Bool} {r p q p' q':Nat→Bool}
theorem Th:∀{ks:List Nat} {last:Int},ks.Pairwise (·< ·)→(∀k∈ks,last<(k:Int)∧k<n)→Di n last (ks.map fun i=>.int ((i:Nat):Int))=true
 |[],_,_,_=>rfl
 |k::ks,last,hp,hb=>by
  rw [qc6] at hp
  have h0:=hb k A8
  rw [Bu,Di,Th hp.2 fun j hj=>⟨Int.ofNat_lt.mpr (hp.1 j hj),(hb j (Bf _ hj)).2⟩,decide_eq_true ⟨h0.1,Int.ofNat_lt.mpr h0.2⟩]
  rfl
theorem Ti:CO n (AH n p)=true:=Th (List.Pairwise.filter _ List.pairwise_lt_range) fun k hk=>⟨by omega,qbM.mp (qb7.mp hk).1⟩
theorem Mo:Plain2 h (AH n p):=⟨trivial,fun x hx=>by
 obtain ⟨k,_,rfl⟩:=qaT.mp hx
 exact trivial⟩
theorem Pc {x y:D} (px:Plain2 h x) (py:Plain2 h y):Plain3 h (.tup [x,y]):=⟨trivial,all_cons px (all_cons py CN)⟩
theorem ZbX (hh:1≤H∧H≤8) (hw:1≤W∧W≤8):Pu (Dz [bD H W f,BO H W p q] h) h (.bl true):=by
 have e:DB H W (BO H W p q)=true:=by
  show (CO H (AH H p)&&CO W (AH W q))=true
  rw [Ti,Ti]
  rfl
 exact e ▸ Tf hh hw (Pc Mo Mo)
theorem ZbY (hh:1≤H∧H≤8) (hw:1≤W∧W≤8):Pu (DA [bD H W f,BO H W p q] h) h .non:=by
 change Wp (Am 2 (J6 Dz) [bD H W f,BO H W p q] h) _
 refine Eq.mpr (A4) ?_
 simp
 refine (ZbX hh hw).wp fun h1 s1=>?_
 simp [s1]
theorem ZbZ {k:Nat} (hk:k<n):((List.range n).filter p).contains k=p k:=by
 rw [qbD]
 simp [hk]
theorem Mp {neg:Bool} {k:Nat} (hk:k<n):EY neg (.int (k:Nat)) (AH n p) h=.ok (.bl (if neg then !p k else p k)) h:=by
 unfold AH
 rw [W6,ZbZ hk]
theorem Zb0 {b:Bool} (hw:W≤8):Pu (Ez [AK W r,AH W q,.bl b] h) h (AK W fun j=>Bool.xor (r j) (Bool.xor b (q j))):=by
 change Wp (Am 3 OD [AK W r,AH W q,.bl b] h) _
 refine Eq.mpr (A4) ?_
 simp
 refine Pu.wp (Io (src:=[]) (xs:=List.range W) (φ:=fun j=>.tup [.int ((j:Nat):Int),lit (r j)]) (fun j=>lit (Bool.xor (r j) (Bool.xor b (q j)))) (fun j=>[some (.int ((j:Nat):Int)),some (lit (r j)),some (AH W q),some (.bl b)]) ?_ (fun x _=>rfl) (fun x hx h' s'=>?_) (sz hw)) fun h2 s2=>?_
 ·simp [Cq,AK,IC,Sm.refl,By]
 ·simp [Pu,Mp (show x<W by simpa using hx)]
  have k:∀a b c:Bool,Bool.xor a (Bool.xor b c)=if c=b then a else !a:=by decide
  rw [k]
  by_cases hq:q x=b
  ·simp [hq,Sm.refl]
  ·have k2:∀a:Bool,(1:Int) - (if a=true then 1 else 0)=if (!a)=true then 1 else 0:=by decide
   simp [hq,Sm.refl,lit,k2]
 ·exact ⟨rfl,s2⟩
theorem Zb1 (hh:1≤H∧H≤8) (hw:1≤W∧W≤8):Pu (Du [bD H W f,BO H W p q] h) h (bD H W fun i j=>Bool.xor (f i j) (Bool.xor (p i) (q j))):=by
 change Wp (Am 4 (Mf DA Ez) [bD H W f,BO H W p q] h) _
 refine Eq.mpr (A4) ?_
 simp
 refine (ZbY hh hw).wp fun h1 s1=>?_
 simp [BO]
 refine Pu.wp (Io (src:=[]) (xs:=List.range H) (φ:=fun i=>.tup [.int ((i:Nat):Int),AK W (f i)]) (fun i=>AK W fun j=>Bool.xor (f i j) (Bool.xor (p i) (q j))) (fun i=>[some (.int ((i:Nat):Int)),some (AK W (f i)),some (AH W q),some (AH H p)]) ?_ (fun x _=>rfl) (fun x hx h' s'=>?_) (sz hh.2)) fun h2 s2=>?_
 ·simp [Cq,bD,IC,Sm.refl,By]
 ·simp [Pu,Mp (show x<H by simpa using hx)]
  exact Zb0 hw.2
 ·exact ⟨rfl,s1.trans s2⟩
end
theorem Smx.over {a b:Nat} {h h1 h2:HD} (s:Smx b h h1) (s2:Smx a h1 h2) (hl:h.length≤a):Smx b h h2:=fun l c n e=>s2 l c (by have:=(qa2.mp e).1;omega) (s l c n e)
theorem Smx.put {a b:Nat} {c:Cell} {h h1:HD} (s:Smx b h h1) (hl:h.length≤a):Smx b h (h1.set a c):=fun l x n e=>by
 rw [BV (by have:=(qa2.mp e).1;omega)]
 exact s l x n e
theorem Smx.new {b:Nat} {c:Cell} {h h1:HD} (s:Smx b h h1):Smx b h (h1++[c]):=s.trans (Dv (.app _ _))
theorem Smx.len {b:Nat} {h h':HD} (s:Smx b h h') (hb:b<h'.length):h.length≤h'.length:=by
 cases e:h.length with
 |zero=>exact DE _
 |succ n=>
  have hn:n<h.length:=by omega
  by_cases hz:n=b
  ·omega
  ·have:=s n h[n] hz (Bb hn)
   have:=(qa2.mp this).1
   omega
inductive Tj (b:Nat) (h1:HD) (xs:List Nat) (ρ:Aj) (h':HD):Prop where
 |mk (N M:Int) (x:Option D) (f0:ρ=[some (.loc b),some (.int N),some (.int M),x]) (f1:h'=h1):Tj b h1 xs ρ h'
theorem Zb2 {b:Nat} {h:HD} {Q:D→HD→Prop} (hx:BoxAt h b) (q:∀l h',BoxAt h' b→BoxAt h' l→l≠b→h.length≤l→Smx b h h'→Q (.loc l) h'):Wp (Fh [.loc b] h) Q:=by
 change Wp (Am 4 (OP AD) [.loc b] h) _
 refine Eq.mpr (A4) ?_
 simp
 refine J7 hx (by decide) (by decide) fun d h1 d0 d1 x1 s1=>?_
 refine D8 (src:=[]) (xs:=List.range 24) (fun i=>.int ((i:Nat):Int)) (Tj b h1) ?_ (fun ys ρ h' _=>DG) ?_ ?_
 ·simp [SV]
  exact ⟨_,_,_,rfl,rfl⟩
 ·rintro x xs ρ h' ⟨N,M,y,rfl,rfl⟩
  refine ⟨_,rfl,?_⟩
  simp
  rw [Lg (by decide) (by decide)]
  simp
  rw [Iq (by decide)]
  simp
  rw [Lg (by decide) (by decide)]
  simp [CV]
  exact ⟨_,_,_,rfl,rfl⟩
 ·rintro ρ h' ⟨N,M,y,rfl,rfl⟩
  simp
  refine A2 (by simp) fun l h2 s e el _=>?_
  exact q l h2 (x1.sm s) ⟨_,e⟩ (by have:=x1.lt;omega) (by have:=s1.len x1.lt;omega) (s1.trans (Dv s))
theorem Tn {b n:Nat} {h:HD} {Q:D→HD→Prop} (hx:BoxAt h b) (hn:n≤8) (q:∀p h',BoxAt h' b→Smx b h h'→Q (AH n p) h'):Wp (DP [.loc b,.int (n:Nat)] h) Q:=by
 change Wp (Am 2 (OR AD) [.loc b,.int (n:Nat)] h) _
 refine Eq.mpr (A4) ?_
 simp
 refine QX (src:=[]) (xs:=List.range n) (fun i=>.int ((i:Nat):Int)) (fun h'=>BoxAt h' b∧Smx b h h') (fun _ _=>True) (fun i d=>d=.int ((i:Nat):Int)) (fun i=>[some (.int ((i:Nat):Int)),some (.loc b)]) ?_ (fun _ _=>DG) (fun h c x=>⟨x.1.new,x.2.new⟩) List.nodup_range (sz hn) (fun x _=>rfl) ?_ ?_
 ·simp [Gd (show n≤1000 by omega),hx,Smx.refl]
 ·intro x hx h i
  simp
  refine J7 i.1 (by decide) (by decide) fun d h1 d0 d1 x1 s1=>?_
  simp [x1,i.2.trans s1]
 ·intro h' g e x1 hr _
  have:((List.range n).filter g).map e=((List.range n).filter g).map fun i=>D.int ((i:Nat):Int):=HH fun x hx=>hr x (qb7.mp hx).1 (qb7.mp hx).2
  rw [this]
  exact q g h' x1.1 x1.2
theorem Zb3 {W:Nat} {rows:List (Nat→Bool)} {H:Nat} (e:rows.length=H):D.tup (rows.map (AK W))=bD H W fun i=>rows.getD i fun _=>false:=by
 unfold bD
 congr 1
 apply Ko
 ·simp [e]
 ·intro i h1 h2
  simp at h1 h2
  simp [EL,Bb h1]
inductive To (b H W:Nat) (way dense:Int) (l2 l3:Nat) (h:HD) (xs:List Nat) (ρ:Aj) (h':HD):Prop where
 |mk (x:Option D) (rows:List (Nat→Bool)) (f0:ρ=[some (.loc b),some (.int (H:Nat)),some (.int (W:Nat)),some (.int way),some (.loc l2),some (.int dense),some (.loc l3),x]) (f1:BoxAt h' b) (f2:BoxAt h' l2) (f3:h'[l3]?=some (.lst (rows.map (AK W)))) (f4:rows.length+xs.length=H) (f5:Smx b h h'):To b H W way dense l2 l3 h xs ρ h'
inductive Tq (b W l2 l3:Nat) (rows:List (Nat→Bool)) (h h':HD):Prop where
 |mk (f1:BoxAt h' b) (f2:BoxAt h' l2) (f3:h'[l3]?=some (.lst (rows.map (AK W)))) (f4:Smx b h h'):Tq b W l2 l3 rows h h'
theorem Zb4 {b H W:Nat} {h:HD} {Q:D→HD→Prop} (hx:BoxAt h b) (hh:1≤H∧H≤8) (hw:1≤W∧W≤8) (q:∀f h',BoxAt h' b→Smx b h h'→Q (bD H W f) h'):Wp (EI [.loc b,.int (H:Nat),.int (W:Nat)] h) Q:=by
 change Wp (Am 8 (OW AD Fh) [.loc b,.int (H:Nat),.int (W:Nat)] h) _
 refine Eq.mpr (A4) ?_
 simp [-Ai]
 refine J7 hx (by decide) (by decide) fun way h1 d0 d1 x1 z1=>?_
 simp [-Ai,Ai (g:=Ak (Aw 4 _) _)]
 refine Zb2 x1 fun l2 h2 x2 y2 n2 k2 z2=>?_
 have kl2:h.length≤l2:=by have:=z1.len x1.lt;omega
 refine Eq.mpr (Ai) ?_
 simp [-Ai]
 refine A2 (by simp) fun l h3 s3 e3 el3 _=>?_
 obtain ⟨dense,ed⟩:∃dense:Int,AC (.loc l) (.int way) h3=.ok (.int dense) h3:=by
  obtain ⟨w,rfl⟩:∃w:Nat,way=(w:Int):=⟨way.toNat,by omega⟩
  obtain ⟨y,ey,z,rfl⟩:=O8 (fun y=>∃i,y=.int i) (o:=w) e3 (by simp;omega) <| all_cons ⟨_,rfl⟩ <| all_cons ⟨_,rfl⟩ <| all_cons ⟨_,rfl⟩ <| all_cons ⟨_,rfl⟩ <| all_cons ⟨_,rfl⟩ CN
  exact ⟨z,ey⟩
 refine Az (ed) ?_
 rw [B7]
 refine Eq.mpr (Ai) ?_
 simp [-Ai]
 refine A2 (by simp) fun l3 h4 s4 e4 el4 _=>?_
 have x4:BoxAt h4 b:=(x2.sm s3).sm s4
 have y4:BoxAt h4 l2:=(y2.sm s3).sm s4
 have z4:Smx b h h4:=((z1.trans z2).trans (Dv s3)).trans (Dv s4)
 have kl3:h.length≤l3:=by have:=(z1.trans z2).len x2.lt;have:=s3.len;omega
 have n3:l3≠b:=by
  obtain ⟨n,e⟩:=x2.sm s3
  have:=(qa2.mp e).1
  omega
 have n4:l3≠l2:=by
  obtain ⟨n,e⟩:=y2.sm s3
  have:=(qa2.mp e).1
  omega
 refine Eq.mpr (Ai) ?_
 simp [-Ai]
 refine D8 (src:=[]) (xs:=List.range H) (fun i=>.int ((i:Nat):Int)) (To b H W way dense l2 l3 h) ?_ (fun ys ρ h' _=>DG) ?_ ?_
 ·simp [Gd (show H≤1000 by omega)]
  exact ⟨_,[],rfl,x4,y4,e4,by simp,z4⟩
 ·rintro x xs ρ h' ⟨y,rows,rfl,x5,y5,e5,hl,z5⟩
  refine ⟨_,rfl,?_⟩
  simp [GK e5]
  refine QX (src:=[]) (xs:=List.range W) (fun i=>.int ((i:Nat):Int)) (Tq b W l2 l3 rows h) (fun _ b=>b=true) (fun i d=>∃r:Bool,d=lit r) (fun i=>[some (.int ((i:Nat):Int)),some (.loc l2),some (.int dense)]) ?_ (fun _ _=>DG) (fun h c x=>by obtain ⟨a1,a2,a3,a4⟩:=x;exact ⟨a1.new,a2.new,Sm.app _ _ _ _ a3,a4.new⟩) List.nodup_range (sz hw.2) (fun x _=>rfl) ?_ ?_
  ·simp [Gd (show W≤1000 by omega)]
   exact ⟨x5,y5,e5,z5⟩
  ·intro x hx h i
   simp
   obtain ⟨a1,a2,a3,a4⟩:=i
   refine J7 a2 (by decide) (by decide) fun d h1 d0 d1 x1 s1=>?_
   simp only [B7,Lb,JF,QN,GJ,NB,QM,W3]
   exact ⟨⟨a1.smx s1 (Ne.symm n2),x1,s1 _ _ n4 a3,a4.over s1 kl2⟩,by cases decide (d<dense)<;>simp [lit]⟩
  ·intro h6 g e x6 hr tr
   obtain ⟨x61,x62,x63,x64⟩:=x6
   have hr':∃r:Nat→Bool,∀x∈List.range W,e x=lit (r x):=by
    refine ⟨fun x=>if h:x∈List.range W then (hr x h (tr x h)).choose else false,fun x hx=>?_⟩
    simp only [dif_pos hx]
    exact (hr x hx (tr x hx)).choose_spec
   obtain ⟨r,er⟩:=hr'
   have ef:(List.range W).filter g=List.range W:=List.filter_eq_self.mpr tr
   have em:D.tup (((List.range W).filter g).map e)=AK W r:=by
    rw [ef];unfold AK;congr 1;exact HH er
   rw [em]
   simp [JH x63 (show (rows.map (AK W)).length<sizeLine by simp;unfold sizeLine;omega),CV]
   have hl3:l3<h6.length:=(qa2.mp x63).1
   refine ⟨_,rows++[r],rfl,?_,?_,?_,?_,x64.put kl3⟩
   ·obtain ⟨n,e⟩:=x61
    exact ⟨n,by rw [BV n3];exact e⟩
   ·obtain ⟨n,e⟩:=x62
    exact ⟨n,by rw [BV n4];exact e⟩
   ·rw [Cy hl3]
    simp
   ·simp at hl ⊢
    omega
 ·rintro ρ h' ⟨y,rows,rfl,x5,y5,e5,hl,z5⟩
  simp at hl
  simp
  by_cases h3:way=3
  ·simp [h3]
   obtain ⟨r0,rest,rfl⟩:∃r0 rest,rows=r0::rest:=by
    cases rows with
    |nil=>simp at hl;omega
    |cons a r=>exact ⟨a,r,rfl⟩
   rw [show (0:Int)=((0:Nat):Int) from rfl]
   refine Az (E3 e5 (k:=0) (a:=AK W r0) rfl) ?_
   simp
   refine A2 (by simp) fun l5 h5 s5 e6 _ _=>?_
   refine Az (YD) ?_
   refine Az (XI e6 (by omega)) ?_
   refine A2 (by simp;unfold sizeLine;omega) fun l6 h6 s6 e7 _ _=>?_
   simp [Le e7]
   have:D.tup (List.replicate H (AK W r0))=bD H W fun _=>r0:=by
    unfold bD
    congr 1
    apply Ko
    ·simp
    ·intro i h1 h2;simp
   rw [this]
   exact q _ _ ((x5.sm s5).sm s6) ((z5.trans (Dv s5)).trans (Dv s6))
  ·simp [h3,Le e5]
   rw [Zb3 hl]
   exact q _ _ x5 z5
def IW (n:Nat):D→Bool
 |.int i=>!(decide (0≤i∧i<(n:Int)))
 |_=>true
theorem Tr {n:Nat}:∀{ds:List D} {last:Int},-1≤last→(∃x∈ds,IW n x=true)→Di n last ds=false
 |[],_,_,h=>by obtain ⟨x,hx,_⟩:=h;cases hx
 |d::ds,last,hl,h=>by
  cases hw:Hz d with
  |false=>exact Pb hw
  |true=>
   obtain ⟨i,rfl⟩:∃i,d=.int i:=by cases d<;>first |exact ⟨_,rfl⟩ |cases hw
   unfold Di
   by_cases hi:last<i∧i<(n:Int)
   ·rw [decide_eq_true hi,Bool.true_and]
    refine Tr (by omega) ?_
    obtain ⟨x,hx,hb⟩:=h
    rcases qa4.mp hx with e |hx
    ·subst e
     simp [IW] at hb
     omega
    ·exact ⟨x,hx,hb⟩
   ·rw [decide_eq_false hi,Ks]
theorem Ts {n:Nat} {i j:Int} (hij:¬i<j):∀{ds:List D} {last:Int},Di n last (ds++[.int i,.int j])=false
 |[],last=>by simp [Di,hij]
 |d::ds,last=>by
  cases hw:Hz d with
  |false=>exact Pb hw
  |true=>
   obtain ⟨k,rfl⟩:∃i,d=.int i:=by cases d<;>first |exact ⟨_,rfl⟩ |cases hw
   rw [FS]
   unfold Di
   rw [Ts hij,Bool.and_false]
theorem Zb5 {n:Nat} {ds:List D} {x:D} (hx:x∈ds) (hb:IW n x=true):CO n (.tup ds)=false:=Tr (Int.le_refl _) ⟨x,hx,hb⟩
theorem Tt {n:Nat} {ds:List D} {i j:Int} (hij:¬i<j):CO n (.tup (ds++[.int i,.int j]))=false:=Ts hij
def NoL (h:HD) (n:Nat) (d:D):Prop:=Plain2 h d∧CO n d=false
theorem NoL.sm {h h':HD} {n:Nat} {d:D} (x:NoL h n d) (s:Sm h h'):NoL h' n d:=⟨x.1.sm s,x.2⟩
theorem NoL.smx {b:Nat} {h h':HD} {n:Nat} {d:D} (x:NoL h n d) (s:Smx b h h') (xb:BoxAt h' b):NoL h' n d:=⟨x.1.smx s xb,x.2⟩
theorem Zb6 {n:Nat} (hn:1≤n):((List.range n).map fun k=>D.int ((k:Nat):Int))++[D.int ((n:Int) - 1)]=((List.range (n - 1)).map fun k=>D.int ((k:Nat):Int))++[.int ((n:Int) - 1),.int ((n:Int) - 1)]:=by
 obtain ⟨m,rfl⟩:∃m,n=m+1:=⟨n - 1,by omega⟩
 simp [DD]
theorem Zb7 {d x:D} {h:HD} (n:NoB h d):Er (Dz [d,x] h) h "NoBoard":=by
 change We (Am 2 (Mc Bk Ec) [d,x] h) _ _
 refine Eq.mpr Ey ?_
 simp
 exact (O4 n.1 n.2).we fun h1 s1=>⟨rfl,rfl,s1⟩
theorem Zb8 {d x:D} {h:HD} (n:NoB h d):Er (DA [d,x] h) h "NoBoard":=by
 change We (Am 2 (J6 Dz) [d,x] h) _ _
 refine Eq.mpr Ey ?_
 simp
 exact (Zb7 n).we fun h1 s1=>⟨rfl,rfl,s1⟩
theorem Zb9 {d x:D} {h:HD} (n:NoB h d):Er (Du [d,x] h) h "NoBoard":=Tg (Zb8 n)
theorem Tu {h:HD} {n:Nat} {x:D} (hx:x∈(List.range n).map fun k=>D.int ((k:Nat):Int)):Plain h x:=by
 obtain ⟨k,_,rfl⟩:=qaT.mp hx
 exact trivial
theorem Zca {n:Nat} {a b:Out D} {Q:D→HD→Prop} {h:HD} (hn:1≤n) (ha:a=.ok (.tup [.int ((n:Int) - 1),.int 0]) h) (hb:b=.ok (.tup [.int 0,.int 0]) h) (q:∀i j:Int,¬i<j→Q (.tup [.int i,.int j]) h):Wp (if 1<(n:Int) then a else b) Q:=by
 split
 ·rw [ha];exact q _ _ (by omega)
 ·rw [hb];exact q _ _ (by omega)
theorem Tv {b n:Nat} {h:HD} {Q:D→HD→Prop} (hx:BoxAt h b) (hb:0<b) (ht:TabAt h) (hn:1≤n∧n≤8) (q:∀d h',NoL h' n d→BoxAt h' b→TabAt h'→Smx b h h'→Q d h'):Wp (DQ [.loc b,.int (n:Nat)] h) Q:=by
 change Wp (Am 5 (OT AD) [.loc b,.int (n:Nat)] h) _
 refine Eq.mpr A4 ?_
 simp [-Ai]
 refine FN hx hb ht (by omega) (by omega) fun A h1 lA x1 t1 s1=>?_
 refine Eq.mpr Ai ?_
 try simp [-Ai,S8]
 refine A2 (by simp) fun l3 h3 s3 e3 el3 _=>?_
 try simp [-Ai]
 refine A2 (by simp) fun l4 h4 s4 e4 el4 _=>?_
 have x4:BoxAt h4 b:=(x1.sm s3).sm s4
 have t4:TabAt h4:=(t1.sm s3).sm s4
 have n3:l3≠b:=by have:=x1.lt;omega
 have n4:l4≠b:=by have:=(x1.sm s3).lt;omega
 try simp [-Ai]
 refine FN x4 hb t4 (by decide) (by decide) fun o h5 l2 x5 t5 s5=>?_
 have e4':=s5 _ _ n4 e4
 have e3':=s5 _ _ n3 (s4 _ _ e3)
 obtain ⟨y,ey,py,ly⟩:=O8 (fun y=>Plain h5 y∧IW n y=true) (o:=o) e4' (by simp;omega) <| all_cons ⟨trivial,by simp [IW]⟩ <| all_cons ⟨trivial,rfl⟩ <| all_cons ⟨trivial,rfl⟩ <| all_cons ⟨trivial,rfl⟩ <| all_cons ⟨trivial,rfl⟩ <| all_cons ⟨trivial,rfl⟩ <| all_cons ⟨trivial,by simp [IW];omega⟩ <| all_cons ⟨trivial,rfl⟩ <| all_cons ⟨⟨_,e3'⟩,rfl⟩ <| all_cons ⟨trivial,rfl⟩ CN
 refine Az ey ?_
 refine Eq.mpr (B7 _ _) ?_
 refine Eq.mpr Ai ?_
 have S:Smx b h h5:=((s1.trans (Dv s3)).trans (Dv s4)).trans s5
 clear ey
 try simp [-Ai]
 refine A2 (by simp) fun l6 h6 s6 e6 _ _=>?_
 refine Zca (h:=h6) hn.1 (by simp [AW,Aa,Ah,Ab,mC,Ad,Fx]) (by simp [AW,Aa,Ab,mC,Ad]) fun i j hij=>?_
 refine A2 (by simp) fun l7 h7 s7 e7 _ _=>?_
 refine Eq.mpr Ai ?_
 try simp [-Ai,YY]
 refine Az (R5 (by omega)) ?_
 try simp [-Ai]
 refine Az (FO (by simp;omega)) ?_
 try simp [-Ai]
 refine Az (R5 (by omega)) ?_
 try simp [-Ai]
 refine Az (FO (by simp;omega)) ?_
 try simp [-Ai]
 refine A2 (by simp) fun l8 h8 s8 e8 _ _=>?_
 try simp [-Ai]
 refine Az (JS (s8 _ _ e7) e8) ?_
 refine A2 (by simp;unfold sizeLine;omega) fun l9 h9 s9 e9 el9 _=>?_
 refine Eq.mpr Ai ?_
 try simp [-Ai]
 have s59:=((s6.trans s7).trans s8).trans s9
 have x9:BoxAt h9 b:=x5.sm s59
 have t9:TabAt h9:=t5.sm s59
 have n9:l9≠b:=by have:=(((x5.sm s6).sm s7).sm s8).lt;omega
 obtain ⟨L,eL,lL,nL⟩:∃L:List D,h9[l9]?=some (.lst L)∧L.length=12∧∀d∈L,NoL h9 n d:=by
  have py9:Plain h9 y:=py.sm s59
  have bad:∀{ds:List D},(∀x∈ds,Plain h9 x)→y∈ds→NoL h9 n (.tup ds):=fun hd hy=>⟨⟨trivial,hd⟩,Zb5 hy ly⟩
  have flat:∀{x:D},Plain h9 x→A3 x=[]→CO n x=false→NoL h9 n x:=fun p e l=>⟨IV p e,l⟩
  have pint:∀i:Int,Plain h9 (.int i):=fun i=>trivial
  have m0:∀{l:List D},y∈y::l:=A8
  have two:∀{i j:Int},¬i<j→NoL h9 n (.tup [.int i,.int j]):=fun z=>⟨⟨trivial,all_cons (pint _) (all_cons (pint _) CN)⟩,Tt (ds:=[]) z⟩
  refine ⟨_,e9,by simp,IU (all_cons (bad (all_cons py9 CN) m0) <| all_cons (two (Int.lt_irrefl _)) <| all_cons (bad (all_cons (pint _) (all_cons py9 CN)) (Bf _ m0)) <|
   all_cons (flat ⟨_,(((s7.trans s8).trans s9) _ _ e6)⟩ rfl rfl) <| all_cons (flat trivial rfl rfl) <| all_cons (flat trivial rfl rfl) <| all_cons (flat trivial rfl rfl) <| all_cons (two hij) <| all_cons (flat trivial rfl rfl) <|
   all_cons (bad (all_cons py9 (all_cons (pint _) CN)) m0) CN) <| all_cons (bad (IU (fun x z=>Tu z) (all_cons py9 CN)) (Dk _ m0)) <| all_cons ?_ CN⟩
  rw [Zb6 hn.1]
  exact ⟨⟨trivial,IU (fun x z=>Tu z) (all_cons (pint _) (all_cons (pint _) CN))⟩,Tt (Int.lt_irrefl _)⟩
 refine FN x9 hb t9 (by decide) (by decide) fun c h10 lc x10 t10 s10=>?_
 have hd:c<L.length:=by omega
 refine Az (E3 (s10 _ _ n9 eL) (Bb hd)) ?_
 exact q _ _ ((nL _ (Gq hd)).smx s10 x10) x10 t10 ((S.trans (Dv s59)).trans s10)
def NoS (h:HD) (H W:Nat) (d:D):Prop:=Plain3 h d∧DB H W d=false
theorem NoS.sm {h h':HD} {H W:Nat} {d:D} (x:NoS h H W d) (s:Sm h h'):NoS h' H W d:=⟨x.1.sm s,x.2⟩
theorem NoS.smx {b:Nat} {h h':HD} {H W:Nat} {d:D} (x:NoS h H W d) (s:Smx b h h') (xb:BoxAt h' b):NoS h' H W d:=⟨x.1.smx s xb,x.2⟩
theorem Zcb {H W:Nat} {a b:D} (h:CO H a=false):DB H W (.tup [a,b])=false:=by simp [DB,h]
theorem Zcc {H W:Nat} {a b:D} (h:CO W b=false):DB H W (.tup [a,b])=false:=by simp [DB,h]
theorem Zcd {H W n:Nat} {p:Nat→Bool}:DB H W (AH n p)=false:=by
 unfold AH
 cases (List.range n).filter p with
 |nil=>rfl
 |cons a l=>cases l with
  |nil=>rfl
  |cons b l=>cases l with
   |nil=>rfl
   |cons c l=>rfl
theorem Zce {h:HD} {n:Nat} {p:Nat→Bool}:Plain3 h (AH n p):=⟨trivial,fun x hx=>by
 simp only [AH,A3,qaT] at hx
 obtain ⟨k,_,rfl⟩:=hx
 exact ⟨trivial,fun y hy=>by cases hy⟩⟩
def Pd (c:Str):List V:=[.bl (BK c "NoBoard"),.bl (BK c "NoLine"),.bl (BK c "NoSwitching"),.bl (BK c "NoNumber"),.bl (BK c "Unlike"),.bl (BK c "NoNet"),.bl (BK c "NoPlace"),.bl (BK c "NoText"),.bl (BK c "NoRow"),.bl (BK c "TooMany")]
def Zcf:List D:=[.str "board",.str "line",.str "switching",.str "number",.str "unlike",.str "net",.str "place",.str "text",.str "row"]
theorem Tw {c w t:Str} {j:Nat} {h:HD} (hc:c∈excNames) (hn:IH (.bl true) (Pd c)=1) (h9:BK c "TooMany"=false) (hj:Ly (.bl true) (Pd c)=some j) (hw:Zcf[j]?=some (.str w)) (hz:((("! ":String):Str)).length+w.length≤1000) (ht:((("! ":String):Str))++w=t):Pu (Ct [.exc c []] h) h (.str t):=by
 have i0:∀h,AO (.exc c []) (.glo "NoBoard") h=.ok (.bl (BK c "NoBoard")) h:=fun h=>E9 hc (by decide +kernel)
 have i1:∀h,AO (.exc c []) (.glo "NoLine") h=.ok (.bl (BK c "NoLine")) h:=fun h=>E9 hc (by decide +kernel)
 have i2:∀h,AO (.exc c []) (.glo "NoSwitching") h=.ok (.bl (BK c "NoSwitching")) h:=fun h=>E9 hc (by decide +kernel)
 have i3:∀h,AO (.exc c []) (.glo "NoNumber") h=.ok (.bl (BK c "NoNumber")) h:=fun h=>E9 hc (by decide +kernel)
 have i4:∀h,AO (.exc c []) (.glo "Unlike") h=.ok (.bl (BK c "Unlike")) h:=fun h=>E9 hc (by decide +kernel)
 have i5:∀h,AO (.exc c []) (.glo "NoNet") h=.ok (.bl (BK c "NoNet")) h:=fun h=>E9 hc (by decide +kernel)
 have i6:∀h,AO (.exc c []) (.glo "NoPlace") h=.ok (.bl (BK c "NoPlace")) h:=fun h=>E9 hc (by decide +kernel)
 have i7:∀h,AO (.exc c []) (.glo "NoText") h=.ok (.bl (BK c "NoText")) h:=fun h=>E9 hc (by decide +kernel)
 have i8:∀h,AO (.exc c []) (.glo "NoRow") h=.ok (.bl (BK c "NoRow")) h:=fun h=>E9 hc (by decide +kernel)
 have i9:∀h,AO (.exc c []) (.glo "TooMany") h=.ok (.bl (BK c "TooMany")) h:=fun h=>E9 hc (by decide +kernel)
 have iv:∀h,AO (.exc c []) (.ty "ValueError") h=.ok (.bl true) h:=fun h=>YH hc
 change Wp (Am 3 OJ [.exc c []] h) _
 refine Eq.mpr A4 ?_
 simp [-Ai,i0,i1,i2,i3]
 refine A2 (by simp) fun l1 h1 s1 e1 _ _=>?_
 refine Eq.mpr Ai ?_
 simp [-Ai,i4,i5,i6,i7]
 refine A2 (by simp) fun l2 h2 s2 e2 _ _=>?_
 refine Az (JS (s2 _ _ e1) e2) ?_
 refine A2 (by simp) fun l3 h3 s3 e3 _ _=>?_
 refine Eq.mpr Ai ?_
 simp [-Ai,i8,i9]
 refine A2 (by simp) fun l4 h4 s4 e4 _ _=>?_
 refine Az (JS (s4 _ _ e3) e4) ?_
 refine A2 (by simp) fun l5 h5 s5 e5 _ _=>?_
 refine Eq.mpr Ai ?_
 simp [-Ai,iv,GK e5]
 refine Az ((YJ (vs:=Pd c) e5 rfl rfl).trans (by rw [hn])) ?_
 simp [-Ai]
 refine Eq.mpr Ai ?_
 simp [-Ai]
 rw [show (9:Int)=((9:Nat):Int) from rfl]
 refine Az (E3 e5 (k:=9) rfl) ?_
 simp [-Ai,h9]
 refine Eq.mpr Ai ?_
 simp [-Ai]
 refine A2 (by simp) fun l6 h6 s6 e6 _ _=>?_
 refine Eq.mpr Ai ?_
 simp [GK (s6 _ _ e5)]
 refine Az (YK (s6 _ _ e5) rfl rfl hj) ?_
 simp only [B7]
 refine Az (E3 e6 hw) ?_
 simp only [B7]
 refine Az (YI hz) ?_
 exact ⟨congrArg D.str ht,((((s1.trans s2).trans s3).trans s4).trans s5).trans s6⟩
theorem p_kind_board {h:HD}:Pu (Ct [.exc "NoBoard" []] h) h (.str "! board"):=Tw (w:="board") (j:=0) (by decide +kernel) (by decide +kernel) (by decide +kernel) (by decide +kernel) rfl (by decide +kernel) (by decide +kernel)
theorem Tx {cs:List Nat} {f:ME} {ρ:Aj} {h:HD} {ds:List D} {Q:D→HD→Prop} (ht:TabAt h) (hd:AV (cs.map fun j=>(ρ[j]?).join)=some ds) (he:Er (f (ds.map some) h) h "NoBoard")
 (q:∀h',Sm h h'→Q (.str "! board") h'):Wp (DM cs Ct f ρ h) Q:=
 RS ht hd (he.we fun h' s=>⟨by decide +kernel,[],rfl,p_kind_board.wp fun h2 s2=>q h2 (s.trans s2)⟩)
theorem p_kind_switching {h:HD}:Pu (Ct [.exc "NoSwitching" []] h) h (.str "! switching"):=Tw (w:="switching") (j:=2) (by decide +kernel) (by decide +kernel) (by decide +kernel) (by decide +kernel) rfl (by decide +kernel) (by decide +kernel)
theorem Zcg {cs:List Nat} {f:ME} {ρ:Aj} {h:HD} {ds:List D} {Q:D→HD→Prop} (ht:TabAt h) (hd:AV (cs.map fun j=>(ρ[j]?).join)=some ds) (he:Er (f (ds.map some) h) h "NoSwitching")
 (q:∀h',Sm h h'→Q (.str "! switching") h'):Wp (DM cs Ct f ρ h) Q:=
 RS ht hd (he.we fun h' s=>⟨by decide +kernel,[],rfl,p_kind_switching.wp fun h2 s2=>q h2 (s.trans s2)⟩)
section
variable {H W:Nat} {h:HD} {f:Nat→Nat→Bool} {r:Nat→Bool}
theorem Zch (hh:1≤H∧H≤8) (hw:1≤W∧W≤8):Pu (Ed [bD H W f] h) h (bD W H fun i j=>f j i):=by
 change Wp (Am 1 (Md Bk) [bD H W f] h) _
 refine Eq.mpr (A4) ?_
 simp
 refine (O5 hh hw).wp fun h1 s1=>?_
 refine Pu.wp (Io (src:=[]) (xs:=List.range W) (φ:=fun j=>.int ((j:Nat):Int)) (fun j=>AK H fun i=>f i j) (fun j=>[some (.int ((j:Nat):Int)),some (bD H W f)]) ?_ (fun x _=>rfl) (fun x hx h' s'=>?_) (sz hw.2)) fun h2 s2=>?_
 ·simp [Cq,Mn hh.1,O6]
  rw [Gd (by omega)]
  simp [Sm.refl,By]
 ·simp [Pu]
  refine (Io (src:=[]) (xs:=List.range H) (φ:=fun i=>AK W (f i)) (fun i=>lit (f i x)) (fun i=>[some (AK W (f i)),some (.int ((x:Nat):Int))]) ?_ (fun x _=>rfl) (fun y hy h' s'=>?_) (sz hh.2))
  ·simp [Cq,bD,Sm.refl,By]
  ·simp [Pu,AK]
   rw [Lf (by simpa using hx)]
   simp [Sm.refl]
 ·exact ⟨rfl,s1.trans s2⟩
theorem Tz:CU (AK W r) h=.ok (.int (Bj W r)) h:=QT
theorem TB (hh:1≤H∧H≤8) (hw:1≤W∧W≤8):Pu (Cu [bD H W f] h) h (.tup ((List.range H).map fun i=>.int (Bj W (f i)))):=by
 change Wp (Am 1 (OZ Bk) [bD H W f] h) _
 rw [A4]
 simp
 refine (O5 hh hw).wp fun h1 s1=>?_
 refine Pu.wp (Io (src:=[]) (xs:=List.range H) (φ:=fun i=>AK W (f i)) (fun i=>.int (Bj W (f i))) (fun i=>[some (AK W (f i))]) Ip (fun x _=>rfl) (fun x hx h' s'=>?_) (sz hh.2)) fun h2 s2=>?_
 ·simp [Pu,Tz,Sm.refl]
 ·exact ⟨rfl,s1.trans s2⟩
theorem Zci (hh:1≤H∧H≤8) (hw:1≤W∧W≤8):Pu (Ee [bD H W f] h) h (.tup ((List.range W).map fun j=>.int (Bj H fun i=>f i j))):=by
 change Wp (Am 1 (Me Ed Cu) [bD H W f] h) _
 rw [A4]
 simp
 refine (Zch hh hw).wp fun h1 s1=>?_
 refine (TB hw hh).wp fun h2 s2=>?_
 simp [s1.trans s2]
end
theorem TC {a n:Nat} {h:HD} (ha:a≤1000) (hn:n≤1000):Jz [.int (a:Int),.int (n:Int)] h=.ok ((List.range (n - a)).map fun k=>D.int ((a:Int)+((k:Nat):Int)),[]) h:=by
 have:((-(2^62):Int)≤(a:Int)∧(a:Int)<2^62)∧(-(2^62):Int)≤(n:Int)∧(n:Int)<2^62:=by omega
 unfold Jz
 simp only
 rw [if_pos this]
 have e:((n:Int) - (a:Int)).toNat=n - a:=by omega
 rw [e]
 simp [Ga]
theorem Ka {n k x:Nat} {xs:List Nat} (h:(List.range n).drop k=x::xs):x=k∧k<n∧xs=(List.range n).drop (k+1):=by
 have hk:k<n:=by
  have:=congrArg List.length h
  simp at this
  omega
 rw [MH (by simpa using hk)] at h
 simp at h
 exact ⟨h.1.symm,hk,h.2.symm⟩
theorem Kb {n k:Nat} (hk:k≤n) (h:(List.range n).drop k=[]):k=n:=by
 have:=congrArg List.length h
 simp at this
 omega
def BU (W:Nat) (c:Nat→Int):D:=.tup ((List.range W).map fun j=>.int (c j))
theorem TF {W:Nat} {c c':Nat→Int} (h:∀j,j<W→c j=c' j):BU W c=BU W c':=by
 unfold BU
 congr 1
 exact HH fun j hj=>by rw [h j (by simpa using hj)]
theorem Zcj {W:Nat} {c:Nat→Int} {r:Nat→Bool} {h:HD} (hw:W≤8):Pu (EA [BU W c,AK W r] h) h (BU W fun j=>c j+1 - 2*(if r j then 1 else 0)):=by
 change Wp (Am 2 OE [BU W c,AK W r] h) _
 rw [A4]
 simp
 refine Pu.wp (Io (src:=[]) (xs:=List.range W) (φ:=fun j=>.tup [.int (c j),lit (r j)]) (fun j=>.int (c j+1 - 2*(if r j then 1 else 0))) (fun j=>[some (.int (c j)),some (lit (r j))]) ?_ (fun x _=>rfl) (fun x hx h' s'=>?_) (sz hw)) fun h2 s2=>?_
 ·simp [Cq,BU,AK]
  rw [XE (e:=fun j=>.int (c j)) (e':=fun j=>lit (r j)) Rk Rk]
  simp [Sm.refl,By]
 ·simp [Pu,lit]
  rw [JJ (by decide) (by decide)]
  simp [Sm.refl]
 ·exact ⟨rfl,s2⟩
theorem TH {W H:Nat} {c:Nat→Int} {h:HD} (hw:W≤8):Pu (Cj [BU W c,.int (H:Nat)] h) h (.int (Cd W H c)):=by
 change Wp (Am 2 OF [BU W c,.int (H:Nat)] h) _
 rw [A4]
 simp
 refine Pu.wp (Ls (src:=[]) (xs:=List.range W) (φ:=fun j=>.int (c j)) (fun j=>if (H:Int) - c j<c j then (H:Int) - c j else c j) (fun j=>[some (.int (c j)),some (.int (H:Nat))]) Ip (fun x _=>rfl) (fun x hx h' s'=>?_) (sz hw)) fun h2 s2=>?_
 ·simp [Pu,Sm.refl]
 ·exact ⟨rfl,s2⟩
theorem Zck {n m:Nat} {r r':Nat→Bool} (hm:m<n) (h:∀i,i≠m→r' i=r i) (hn:r' m=!r m):Bj n r'=Bj n r+1 - 2*(if r m then 1 else 0):=by
 have s1:∀k (r:Nat→Bool),Bj (k+1) r=Bj k r+if r k then 1 else 0:=fun k r=>by
  unfold Bj
  rw [DD,DT,FU]
  simp
 have key:∀k:Nat,(k≤m→Bj k r'=Bj k r)∧(m<k→Bj k r'=Bj k r+1 - 2*(if r m then 1 else 0)):=fun k=>by
  induction k with
  |zero=>exact ⟨fun _=>rfl,fun z=>by omega⟩
  |succ k ih=>
   rw [s1,s1]
   refine ⟨fun hk=>?_,fun hk=>?_⟩
   ·rw [ih.1 (by omega),h k (by omega)]
   ·by_cases hz:k=m
    ·subst hz
     rw [ih.1 (by omega),hn]
     cases r k<;>simp<;>omega
    ·rw [ih.2 (by omega),h k hz]
     omega
 exact (key n).2 hm
theorem Zcl {H n:Nat} {f:Nat→Nat→Bool} {R:Nat→Bool} {j:Nat} (hn:n<H) (h0:R n=false):cc H f (ext n R) j=cc H f R j+1 - 2*(if f n j then 1 else 0):=by
 unfold cc
 rw [Zck (r:=fun i=>Bool.xor (f i j) (R i)) hn (fun i hi=>by simp [ext,hi]) (by simp [ext,h0])]
 simp [h0]
theorem Zcm {n:Nat} {R:Nat→Bool}:AH (n+1) (ext n R)=.tup (((List.range n).filter R).map (fun i=>D.int ((i:Nat):Int))++[.int ((n:Nat):Int)]):=by
 unfold AH
 rw [DD,List.filter_append]
 have e1:(List.range n).filter (ext n R)=(List.range n).filter R:=List.filter_congr fun i hi=>by
  have:i<n:=by simpa using hi
  simp [ext,show i≠n by omega]
 have e2:[n].filter (ext n R)=[n]:=by simp [ext]
 rw [e1,e2]
 simp
theorem Zcn {n:Nat} {R:Nat→Bool} (h:R n=false):AH (n+1) R=AH n R:=by
 unfold AH
 rw [DD,List.filter_append]
 simp [h]
theorem Pe {k:Nat} (hk:k≤7):(LL 1 k).length≤128:=by
 rw [NY]
 exact HE (n:=2) (by decide) hk
theorem Mq {n:Nat} (h:n≤1000):n≤sizeLine:=by unfold sizeLine;omega
def Ef (H W k:Nat) (f:Nat→Nat→Bool):List D:=(LL 1 k).map fun R=>.tup [AH (k+1) R,BU W (cc H f R)]
def LwI (H W:Nat) (f:Nat→Nat→Bool) (h:HD) (xs:List Nat) (ρ:Aj) (h':HD):Prop:=∃(k l:Nat) (x:Option D),xs=(List.range (H - 1)).drop k∧k≤H - 1∧ρ=[some (bD H W f),some (.loc l),x]∧Sm h h'∧h'[l]?=some (.lst (Ef H W k f))
theorem Zco {n k:Nat} {e:Nat→D} {i:Int} {h:HD} (hi:i=(k:Int)) (hk:k<n):AC (.tup ((List.range n).map e)) (.int i) h=.ok (e k) h:=by
 subst hi;exact Lf hk
theorem TJ {H W:Nat} {f:Nat→Nat→Bool} {h:HD} (hh:1≤H∧H≤8) (hw:1≤W∧W≤8):∃l h1,BI [bD H W f] h=.ok (.loc l) h1∧Sm h h1∧h1[l]?=some (.lst (Ef H W (H - 1) f)):=by
 suffices hs:Wp (BI [bD H W f] h) (fun d h1=>∃l,d=.loc l∧Sm h h1∧h1[l]?=some (.lst (Ef H W (H - 1) f))) by
  obtain ⟨d,h1,e,l,rfl,q⟩:=hs.ex
  exact ⟨l,h1,e,q⟩
 change Wp (Am 3 (Mg Ee EA) [bD H W f] h) _
 rw [A4]
 simp [-Ai]
 refine (Zci hh hw).wp fun h1 s1=>?_
 refine A2 (by simp) fun l h2 s2 e2 _ _=>?_
 rw [Ai]
 simp [-Ai]
 refine D8 (src:=[]) (xs:=List.range (H - 1)) (fun k=>.int (1+(k:Int))) (LwI H W f h) ?_ (fun ys ρ h' _=>DG) ?_ ?_
 ·have eH:Bn (bD H W f) h2=.ok (.int ((H:Nat):Int)) h2:=by simp [bD]
  simp [eH]
  rw [show (1:Int)=((1:Nat):Int) from rfl,TC (by omega) (by omega)]
  simp
  refine ⟨0,l,none,by simp,by omega,rfl,s1.trans s2,?_⟩
  rw [e2]
  simp [Ef,LL,AH]
  exact TF (W:=W) fun j _=>ID fun i _=>by simp
 ·rintro x xs ρ h' ⟨k,l',y,ex,hk,rfl,s',e'⟩
  obtain ⟨rfl,hk',rfl⟩:=Ka ex.symm
  refine ⟨_,rfl,?_⟩
  simp
  refine E2 (src:=[(l',Ef H W x f)]) (xs:=LL 1 x) (φ:=fun R=>.tup [AH (x+1) R,BU W (cc H f R)]) (fun _=>true) (fun R=>.tup [AH (x+1+1) (ext (1+x) R),BU W (cc H f (ext (1+x) R))]) (fun R=>[some (AH (x+1) R),some (BU W (cc H f R)),some (.int (1+(x:Int))),some (bD H W f)]) ?_ (Mq (Ca (Pe (by omega)) (by decide))) (fun R _=>rfl) (fun R _ h2 s2=>(.ok:Pu (.ok true h2) h2 true)) (fun R hR _ h2 s2=>?_) fun l3 h3 s3 e3=>?_
  ·simp [GO e',Ef]
   exact ⟨.refl _,fun h2 s2=>GH (s2 _ _ e')⟩
  ·have h0:R (1+x)=false:=IE hR _ (by omega)
   simp [Pu]
   unfold AH
   rw [XG (Mq (by
    have:=Kh R (List.range (x+1))
    simp at this ⊢
    omega))]
   simp
   unfold bD
   rw [Zco (k:=1+x) (by omega) (by omega)]
   simp
   refine (Zcj hw.2).wp fun h3 s3=>?_
   simp [s3]
   refine ⟨?_,TF fun j _=>(Zcl (by omega) h0).symm⟩
   have e1:AH (x+1+1) (ext (1+x) R)=AH (x+1+1) (ext (x+1) R):=by rw [Nat.add_comm 1 x]
   have e2:=e1.trans (Zcm (n:=x+1) (R:=R))
   unfold AH at e2
   have e3:=D.tup.inj e2
   rw [e3,show (1+(x:Int))=(((x+1:Nat)):Int) from by omega]
  ·rw [Ge] at e3
   rw [XF (s3 _ _ e') e3]
   have hlen:=Pe (k:=x) (by omega)
   refine A2 (Mq (by simp [Ef];omega)) fun l4 h4 s4 e4 _ _=>?_
   simp only [CV]
   refine ⟨x+1,l4,_,rfl,by omega,rfl,s'.trans (s3.trans s4),?_⟩
   rw [e4]
   have ea:Ef H W x f=(LL 1 x).map fun R=>.tup [AH (x+1+1) R,BU W (cc H f R)]:=HH fun R hR=>by rw [Zcn (n:=x+1) (IE hR _ (by omega))]
   rw [ea]
   show _=some (Cell.lst ((LL 1 (x+1)).map fun R=>.tup [AH (x+1+1) R,BU W (cc H f R)]))
   rw [LL,DT,Eg]
   rfl
 ·rintro ρ h' ⟨k,l',y,ex,hk,rfl,s',e'⟩
  have:k=H - 1:=Kb hk ex.symm
  subst this
  simp
  exact ⟨s',e'⟩
section
variable {H W:Nat} {f:Nat→Nat→Bool} {p q:Nat→Bool} {h:HD}
theorem TK {ρ:Aj} {l:Nat} {h1:HD} (e:BI [bD H W f] h=.ok (.loc l) h1) (s:Sm h h1) (el:h1[l]?=some (.lst (Ef H W (H - 1) f))):
 Cq (Bq (Ag BI (Aa (Ab 0) Ad)) (some (bD H W f)::ρ) h) h ((LL 1 (H - 1)).map fun R=>.tup [AH (H - 1+1) R,BU W (cc H f R)]) [(l,Ef H W (H - 1) f)]:=by
 have:Bq (Ag BI (Aa (Ab 0) Ad)) (some (bD H W f)::ρ) h=(BI [bD H W f] h).bind FA:=rfl
 rw [this]
 exact XM e s el
theorem TL (hh:1≤H∧H≤8):(LL 1 (H - 1)).length≤sizeLine:=Mq (Ca (Pe (by omega)) (by decide))
theorem Pf (hh:1≤H∧H≤8) (hw:1≤W∧W≤8):Pu (Bs [bD H W f] h) h (.int (left H W f)):=by
 change Wp (Am 1 (Mh BI Cj) [bD H W f] h) _
 rw [A4]
 simp
 obtain ⟨l,h1,e,s1,el⟩:=TJ (f:=f) (h:=h) hh hw
 refine Pu.wp (XJ (src:=[(l,Ef H W (H - 1) f)]) (xs:=LL 1 (H - 1)) (φ:=fun R=>.tup [AH (H - 1+1) R,BU W (cc H f R)]) (fun R=>Cd W H (cc H f R)) (fun R=>[some (AH (H - 1+1) R),some (BU W (cc H f R)),some (bD H W f)]) (TK e s1 el) (fun R _=>rfl) (fun R hR h' s'=>?_) (TL hh) Rv) fun h2 s2=>?_
 ·simp [Pu,J9]
  exact TH hw.2
 ·exact ⟨rfl,s2⟩
end
theorem TM:∀n a b:Nat,a≤n→b≤n→(a|||b)=(a ^^^b)+(a&&& b)
 |0,a,b,ha,hb=>by
  obtain rfl:a=0:=by omega
  obtain rfl:b=0:=by omega
  rfl
 |n+1,a,b,ha,hb=>by
  have ih:=TM n (a / 2) (b / 2) (by omega) (by omega)
  rw [←Nat.or_div_two,←Nat.xor_div_two,←Nat.and_div_two] at ih
  have h1:=@Nat.or_mod_two_eq_one a b
  have h2:=@Nat.and_mod_two_eq_one a b
  have h3:=@Nat.xor_mod_two_eq_one a b
  rcases Nat.mod_two_eq_zero_or_one a with e |e<;>rcases Nat.mod_two_eq_zero_or_one b with e' |e'<;>omega
theorem bor {a b:Nat}:Builtin.bitOr (a:Int) (b:Int)=((a|||b:Nat):Int):=by
 have n1:∀x:Nat,decide (0≤Builtin.bitNot (x:Int))=false:=fun x=>by simp [Builtin.bitNot];omega
 have n2:∀x:Int,Builtin.bitNot (Builtin.bitNot x)=x:=fun x=>by simp [Builtin.bitNot];omega
 unfold Builtin.bitOr Builtin.bitAnd
 rw [n1,n1]
 simp only [n2,HI]
theorem bx {a b:Nat}:Builtin.bitXor (a:Int) (b:Int)=((a ^^^b:Nat):Int):=by
 have:=TM (a+b) a b (by omega) (by omega)
 have e:Builtin.bitAnd (a:Int) (b:Int)=((a&&& b:Nat):Int):=rfl
 unfold Builtin.bitXor
 rw [bor,e]
 omega
def Cw (n:Nat):Int:=Bj 8 fun j=>n.testBit j
theorem Zcp:∀n<256,Cw n=Cw (n / 2)+((n % 2:Nat):Int):=by decide +kernel
def BD (W:Nat) (r:Nat→Bool):Nat:=((List.range W).map fun j=>(if r j then 1 else 0)*2^j).sum
theorem TN {W:Nat} {r:Nat→Bool}:BD (W+1) r=(if r W then 2^W else 0)+BD W r:=by
 unfold BD
 rw [DD,DT,FU]
 simp [Nat.add_comm]
 by_cases e:r W=true<;>simp [e]
theorem Kc (r:Nat→Bool):∀W,BD W r<2^W∧∀j,(BD W r).testBit j=(decide (j<W)&&r j)
 |0=>by simp [BD]
 |W+1=>by
  obtain ⟨h1,h2⟩:=Kc r W
  rw [TN]
  cases e:r W with
  |false=>
   simp only [B2,if_false,Nat.zero_add]
   refine ⟨A0 h1 (HE (by decide) (by omega)),fun j=>?_⟩
   rw [h2 j]
   by_cases z:j=W
   ·subst z;simp [e]
   ·have:decide (j<W)=decide (j<W+1):=by simp;omega
    rw [this]
  |true=>
   simp only [if_true]
   have h3:2^W+BD W r<2^(W+1):=by rw [Nat.pow_succ];omega
   refine ⟨h3,fun j=>?_⟩
   rcases Nat.lt_trichotomy j W with z |z |z
   ·rw [Nat.testBit_two_pow_add_gt z,h2 j]
    have:decide (j<W)=decide (j<W+1):=by simp;omega
    rw [this]
   ·subst z
    rw [Nat.testBit_two_pow_add_eq,h2 j]
    simp [e]
   ·rw [Nat.testBit_lt_two_pow (A0 h3 (HE (by decide) z))]
    simp;omega
theorem TQ {n:Nat} {r:Nat→Bool}:∀{m:Nat},n≤m→(∀j,n≤j→r j=false)→Bj m r=Bj n r
 |0,h,_=>by have:n=0:=by omega
            rw [this]
 |m+1,h,hr=>by
  by_cases z:n=m+1
  ·rw [z]
  ·rw [←TQ (m:=m) (by omega) hr]
   unfold Bj
   rw [DD,DT,FU]
   simp [hr m (by omega)]
theorem Zcq {W c:Nat} {r:Nat→Bool} (hW:W≤8) (hc:c<2^W):Cw (BD W r ^^^c)=Bj W fun j=>Bool.xor (r j) (c.testBit j):=by
 unfold Cw
 rw [TQ (n:=W) hW]
 ·refine ID fun j hj=>?_
  rw [Nat.testBit_xor,(Kc r W).2 j]
  simp [hj]
 ·intro j hj
  rw [Nat.testBit_xor,(Kc r W).2 j,Nat.testBit_lt_two_pow (A0 hc (HE (by decide) hj))]
  simp
  omega
theorem Zcr {H W:Nat} {f:Nat→Nat→Bool} (hH:1≤H) (hW:1≤W):FH ((List.range (2^W)).map fun c=>Cd H W (cc W (fun j i=>f i j) fun j=>c.testBit j))=left H W f:=by
 have hp:0<2^W:=Nat.pow_pos (by decide)
 rw [←XU hH hW]
 apply Int.le_antisymm
 ·obtain ⟨R,hR,e⟩:=JQ (H:=W) (W:=H) (f:=fun i j=>f j i)
  rw [←e]
  have hc:=Kc R W
  refine NQ (qaT.mpr ⟨BD W R,qbM.mpr hc.1,?_⟩)
  have:(cc W (fun j i=>f i j) fun j=>(BD W R).testBit j)=cc W (fun j i=>f i j) R:=by
   funext i
   exact Rr fun j hj=>by rw [hc.2 j];simp [hj]
  rw [this]
 ·have hne:((List.range (2^W)).map fun c=>Cd H W (cc W (fun j i=>f i j) fun j=>c.testBit j))≠[]:=by
   intro e
   have:=congrArg List.length e
   simp at this
  obtain ⟨c,hc,e⟩:=qaT.mp (NP hne)
  rw [←e,←NX]
  exact NZ hW _ _
theorem Kd {n:Nat} (hn:n≤1000):n≤sizeLine:=by unfold sizeLine;omega
theorem Sm.put {h h':HD} {l:Nat} {c:Cell} (s:Sm h h') (hl:h.length≤l):Sm h (h'.set l c):=fun i x e=>by
 rw [BV (by have:=(qa2.mp e).1;omega)]
 exact s i x e
theorem icd {a b:Nat}:((a:Nat):Int) / ((b:Nat):Int)=((a / b:Nat):Int):=rfl
theorem icm {a b:Nat}:((a:Nat):Int) % ((b:Nat):Int)=((a % b:Nat):Int):=rfl
def HA (n:Nat):D:=.int (Cw n)
def OnI (l:Nat) (h:HD) (xs:List Nat) (ρ:Aj) (h':HD):Prop:=∃(j:Nat) (y:Option D),xs=(List.range 255).drop j∧j≤255∧ρ=[some (.loc l),y]∧Sm h h'∧h'[l]?=some (.lst ((List.range (j+1)).map HA))
theorem Zcs {h:HD} {Q:D→HD→Prop} (q:∀l h',Sm h h'→h.length≤l→h'[l]?=some (.lst ((List.range 256).map HA))→Q (.loc l) h'):Wp (Eb [] h) Q:=by
 change Wp (Am 2 OL [] h) _
 refine Eq.mpr A4 ?_
 simp [-Ai]
 refine A2 (by simp) fun l h1 s1 e1 el _=>?_
 refine Eq.mpr Ai ?_
 refine Eq.mpr Cp ?_
 refine D8 (src:=[]) (xs:=List.range 255) (fun k=>.int (1+(k:Int))) (OnI l h) ?_ (fun ys ρ h' _=>DG) ?_ ?_
 ·simp
  rw [show (1:Int)=((1:Nat):Int) from rfl,show (256:Int)=((256:Nat):Int) from rfl,TC (by omega) (by omega)]
  exact ⟨rfl,0,_,rfl,by omega,rfl,s1,e1⟩
 ·rintro x xs ρ h2 ⟨j,y,ex,hj,rfl,s2,e2⟩
  obtain ⟨rfl,hk',rfl⟩:=Ka ex.symm
  refine ⟨_,rfl,?_⟩
  rw [show (1:Int)+(x:Int)=((x+1:Nat):Int) by omega]
  simp [-Int.natCast_add,GK e2]
  refine Az (QU (by decide) (by decide)) ?_
  rw [B7,show (2:Int)=((2:Nat):Int) from rfl,icd]
  have hd:(x+1) / 2<x+1:=by omega
  refine Az (E3 e2 (k:=(x+1) / 2) (a:=HA ((x+1) / 2)) (by rw [Ck,HG hd];rfl)) ?_
  rw [B7]
  refine Az (Iq (by decide)) ?_
  rw [B7,icm]
  unfold HA
  refine Az (show AL (.int (Cw ((x+1) / 2))) (.int (((x+1) % 2:Nat):Int)) h2=.ok (.int (Cw ((x+1) / 2)+(((x+1) % 2:Nat):Int))) h2 from rfl) ?_
  rw [B7,←Zcp (x+1) (by omega)]
  refine Az (JH e2 (by simp;exact Kd (by omega))) ?_
  have hl2:l<h2.length:=(qa2.mp e2).1
  simp [CV]
  refine ⟨x+1,_,rfl,by omega,rfl,Sm.put s2 (by omega),?_⟩
  rw [Cy hl2,DD (n:=x+1),DT]
  rfl
 ·rintro ρ h2 ⟨j,y,ex,hj,rfl,s2,e2⟩
  have:j=255:=Kb hj ex.symm
  subst this
  simp
  exact q _ _ s2 (by omega) e2
theorem TR {i:Int} {n:Nat} {h:HD} (hi:i.natAbs<18446744073709551616) (hn:n≤1000):F5 (.int i) (.int (n:Nat)) h=.ok (.int (i*2^n)) h:=by
 have:GB i (n:Int):=⟨by omega,by omega,by omega⟩
 simp only [F5,LS.intD]
 rw [if_pos this]
 simp
theorem TU {r:Nat→Bool}:∀W:Nat,((List.range W).map fun j=>(if r j then (1:Int) else 0)*2^j).sum=((BD W r:Nat):Int)
 |0=>rfl
 |W+1=>by
  rw [DD,DT,FU,TU W,TN]
  by_cases e:r W=true<;>simp [e]
  omega
theorem TV {W:Nat} (hw:W≤8):2^W≤256:=HE (n:=2) (by decide) hw
theorem Zct {W N:Nat} {h:HD} (hw:W≤1000) (eN:2^W=N):F5 (.int 1) (.int (W:Nat)) h=.ok (.int (N:Nat)) h:=by
 rw [TR (by decide) hw,Int.one_mul,←eN]
 congr 2
def lc (H W:Nat) (f:Nat→Nat→Bool) (c:Nat):Int:=Cd H W (cc W (fun j i=>f i j) fun j=>c.testBit j)
def Gj (W:Nat) (f:Nat→Nat→Bool) (i:Nat):D:=.int ((BD W (f i):Nat):Int)
section
variable {H W:Nat} {h:HD} {f:Nat→Nat→Bool}
inductive TX (H W N l1 l3 l4:Nat) (f:Nat→Nat→Bool) (h:HD) (xs:List Nat) (ρ:Aj) (h':HD):Prop where
 |mk (j:Nat) (y z:Option D) (ex:xs=(List.range N).drop j) (hj:j≤N) (er:ρ=[some (bD H W f),some (.loc l1),some (.int (W:Nat)),some (.loc l3),some (.loc l4),y,z]) (s:Sm h h') (e1:h'[l1]?=some (.lst ((List.range 256).map HA))) (e3:h'[l3]?=some (.lst ((List.range H).map (Gj W f)))) (e4:h'[l4]?=some (.lst ((List.range j).map fun c=>.int (lc H W f c)))):TX H W N l1 l3 l4 f h xs ρ h'
@[irreducible] noncomputable def Mr:MS:=Ak (Aw 6 (AX [none,some 1,some 5] (Bq (Ab 3)) (A5 0) (Br) (Ah AC (Ab 1) (Ah Ov (Ab 0) (Ab 2))))) (Dp (E1 (Ab 4) (Ag (An CU) (Aa (AX [none,some 2] (Bq (Ab 6)) (A5 0) (Br) (Ag (Bd F7) (Aa (Ab 0) (Aa (Ah Fx (Ab 1) (Ab 0)) (Ad))))) (Ad)))))
theorem Zcu {c l1 l3 l4:Nat} {rows:List D} {y:Option D} {Q:Fl×Aj→HD→Prop} (hh:H≤8) (hw:W≤8) (hc:c<2^W) (e1:h[l1]?=some (.lst ((List.range 256).map HA))) (e3:h[l3]?=some (.lst ((List.range H).map (Gj W f)))) (e4:h[l4]?=some (.lst rows)) (hz:rows.length≤256)
 (q:∀z h1,Sm h h1→l4<h1.length→Q (.nx,[some (bD H W f),some (.loc l1),some (.int (W:Nat)),some (.loc l3),some (.loc l4),some (.int (c:Nat)),z]) (h1.set l4 (.lst (rows++[.int (lc H W f c)])))):
 Wp (Mr [some (bD H W f),some (.loc l1),some (.int (W:Nat)),some (.loc l3),some (.loc l4),some (.int (c:Nat)),y] h) Q:=by
 unfold Mr
 refine Eq.mpr Cp ?_
 refine Eq.mpr NA ?_
 have hb:∀i,BD W (f i) ^^^c<256:=fun i=>A0 (Nat.xor_lt_two_pow (Kc (f i) W).1 hc) (TV hw)
 refine E2 (src:=[(l3,(List.range H).map (Gj W f))]) (xs:=List.range H) (φ:=Gj W f) (fun _=>true) (fun i=>.int (Cw (BD W (f i) ^^^c))) (fun i=>[some (Gj W f i),some (.loc l1),some (.int (c:Nat))]) ?_ (sz hh) (fun x _=>rfl) (fun x _ h' s'=>(.ok:Pu (.ok true h') h' true)) (fun i _ _ h' s'=>?_) fun l6 h6 s6 e6=>?_
 ·simp [GO e3]
  exact ⟨.refl _,fun h' s'=>GH (s' _ _ e3)⟩
 ·simp only [Pu,NB,Lb,JF,Gj,QN,B7]
  rw [bx]
  refine Az (E3 (s' _ _ e1) (k:=BD W (f i) ^^^c) (a:=HA (BD W (f i) ^^^c)) (by rw [Ck,HG (hb i)];rfl)) ?_
  exact ⟨rfl,.refl _⟩
 ·rw [Ge] at e6
  refine Eq.mpr Ai ?_
  simp [GK (s6 _ _ e4)]
  refine Pu.wp (Ls (src:=[(l6,(List.range H).map fun i=>.int (Cw (BD W (f i) ^^^c)))]) (xs:=List.range H) (φ:=fun i=>.int (Cw (BD W (f i) ^^^c))) (fun i=>if (W:Int) - Cw (BD W (f i) ^^^c)<Cw (BD W (f i) ^^^c) then (W:Int) - Cw (BD W (f i) ^^^c) else Cw (BD W (f i) ^^^c)) (fun i=>[some (.int (Cw (BD W (f i) ^^^c))),some (.int (W:Nat))]) ?_ (fun x _=>rfl) (fun x hx h' s'=>?_) (sz hh)) fun h7 s7=>?_
  ·simp [Cq,GO e6]
   exact ⟨.refl _,fun h' s'=>GH (s' _ _ e6)⟩
  ·simp [Pu,Sm.refl]
  ·have es:((List.range H).map fun i=>if (W:Int) - Cw (BD W (f i) ^^^c)<Cw (BD W (f i) ^^^c) then (W:Int) - Cw (BD W (f i) ^^^c) else Cw (BD W (f i) ^^^c)).sum=lc H W f c:=by
    unfold lc Cd
    refine GP fun i _=>?_
    rw [Zcq hw hc]
    rfl
   rw [es]
   have e47:=s7 _ _ (s6 _ _ e4)
   refine Az (JH e47 (Kd (by omega))) ?_
   rw [B7]
   exact q _ h7 (s6.trans s7) (qa2.mp e47).1
theorem Zcv:Ma Eb=Ak (F8 (GS [1,2]) (AW (Aa (Ag Eb (Ad)) (Aa (Ag (An Bn) (Aa (Ah AC (Ab 0) (mC (.int 0))) (Ad))) (Ad))))) (Ak (Aw 3 (AX [none] (Bq (Ab 0)) (A5 0) (Br) (Ag (An CU) (Aa (AX [none,none] (E6 (Aa (Ab 0) (Ad))) (CD 0 1) (Br) (Ah F5 (Ab 1) (Ab 0))) (Ad))))) (Ak (Aw 4 (Ba (Ad))) (Ak (BZ (Dq (Aa (Ah F5 (mC (.int 1)) (Ab 2)) (Ad))) (A5 5) Mr) (Av (Ag (An (FI FH)) (Aa (Ab 4) (Ad))))))):=by unfold Mr;rfl
theorem Zcw (hh:1≤H∧H≤8) (hw:1≤W∧W≤8):Pu (EH [bD H W f] h) h (.int (left H W f)):=by
 change Wp (Am 7 (Ma Eb) [bD H W f] h) _
 rw [Zcv]
 refine Eq.mpr A4 ?_
 simp [-Ai]
 refine Zcs fun l1 h1 s1 hl1 e1=>?_
 simp [-Ai,Mn hh.1,O6]
 refine Eq.mpr Ai ?_
 refine Eq.mpr Cp ?_
 refine Eq.mpr NA ?_
 refine E2 (src:=[]) (xs:=List.range H) (φ:=fun i=>AK W (f i)) (fun _=>true) (Gj W f) (fun i=>[some (AK W (f i))]) ?_ (sz hh.2) (fun x _=>rfl) (fun x _ h' s'=>(.ok:Pu (.ok true h') h' true)) (fun i _ _ h' s'=>?_) fun l3 h3 s3 e3=>?_
 ·simp [bD,Sm.refl,By]
 ·simp [Pu]
  refine Pu.wp (Ls (src:=[]) (xs:=List.range W) (φ:=fun j=>.tup [.int ((j:Nat):Int),lit (f i j)]) (fun j=>(if f i j then (1:Int) else 0)*2^j) (fun j=>[some (.int ((j:Nat):Int)),some (lit (f i j))]) ?_ (fun x _=>rfl) (fun x hx h' s'=>?_) (sz hw.2)) fun h7 s7=>?_
  ·simp [Cq,AK,IC,Sm.refl,By]
  ·have hx:=qbM.mp hx
   simp only [Pu,NB,Lb,JF,lit,B7]
   refine Az (TR (by split<;>decide) (by omega)) ?_
   exact ⟨rfl,.refl _⟩
  ·unfold Gj
   rw [TU]
   exact ⟨rfl,s7⟩
 rw [Ge] at e3
 refine Eq.mpr Ai ?_
 simp [-Ai]
 refine A2 (by simp) fun l4 h4 s4 e4 el4 _=>?_
 refine Eq.mpr Ai ?_
 refine Eq.mpr Cp ?_
 obtain ⟨N,eN⟩:∃N,2^W=N:=⟨_,rfl⟩
 have hN:N≤256:=eN ▸ TV hw.2
 have n1:l4≠l1:=by have:=(qa2.mp (s3 _ _ e1)).1;omega
 have n3:l4≠l3:=by have:=(qa2.mp e3).1;omega
 have hl4:h.length≤l4:=by have:=(s1.trans s3).len;omega
 refine D8 (src:=[]) (xs:=List.range N) (fun i=>.int ((i:Nat):Int)) (TX H W N l1 l3 l4 f h) ?_ (fun ys ρ h' _=>DG) ?_ ?_
 ·simp
  refine Az (Zct (by omega) eN) ?_
  rw [B7,Gd (by omega)]
  exact ⟨rfl,⟨0,_,_,by simp,by omega,rfl,(s1.trans s3).trans s4,s4 _ _ (s3 _ _ e1),s4 _ _ e3,e4⟩⟩
 ·rintro x xs ρ h5 ⟨j,y,z,ex,hj,rfl,s5,f1,f3,f4⟩
  obtain ⟨rfl,hk',rfl⟩:=Ka ex.symm
  refine ⟨_,rfl,?_⟩
  refine Zcu hh.2 hw.2 (by omega) f1 f3 f4 (by simp;omega) fun z h6 s6 hl=>?_
  refine ⟨x+1,_,_,rfl,by omega,rfl,Sm.put (s5.trans s6) hl4,?_,?_,?_⟩
  ·rw [BV n1];exact s6 _ _ f1
  ·rw [BV n3];exact s6 _ _ f3
  ·rw [Cy hl,DD,DT];rfl
 ·rintro ρ h5 ⟨j,y,z,ex,hj,rfl,s5,f1,f3,f4⟩
  have:j=N:=Kb hj ex.symm
  subst this
  simp
  have hp:0<2^W:=Nat.pow_pos (by decide)
  refine Az (Rl (ns:=(List.range j).map fun c=>lc H W f c) (by rw [f4,Eg];rfl) (by simp;omega)) ?_
  rw [B7]
  refine ⟨?_,s5⟩
  rw [←eN]
  exact congrArg D.int (Zcr hh.1 hw.1)
end
section
variable {H W:Nat} {f:Nat→Nat→Bool} {p q:Nat→Bool} {h:HD}
theorem Zcx {W H:Nat} {c:Nat→Int} {h:HD} (hw:W≤8):Pu (EB [BU W c,.int (H:Nat)] h) h (AH W (Eu H c)):=by
 change Wp (Am 2 OG [BU W c,.int (H:Nat)] h) _
 rw [A4]
 simp
 refine Pu.wp (W7 (src:=[]) (xs:=List.range W) (φ:=fun j=>.tup [.int ((j:Nat):Int),.int (c j)]) (Eu H c) (fun j=>.int ((j:Nat):Int)) (fun j=>[some (.int ((j:Nat):Int)),some (.int (c j)),some (.int (H:Nat))]) ?_ (fun x _=>rfl) (fun x hx h' s'=>?_) (fun x hx _ h' s'=>?_) (sz hw)) fun h2 s2=>?_
 ·simp [Cq,BU,IC,Sm.refl,By]
 ·simp [Pu]
  rw [JJ (by decide) (by decide)]
  simp [Sm.refl,Eu]
 ·simp [Pu,Sm.refl]
 ·exact ⟨rfl,s2⟩
theorem Zcy (hh:1≤H∧H≤8) (hw:1≤W∧W≤8):∃R∈LL 1 (H - 1),Cd W H (cc H f R)=left H W f∧∀h,Pu (Dc [bD H W f] h) h (BO H W R (Eu H (cc H f R))):=by
 have hne:(LL 1 (H - 1)).filter (fun R=>Cd W H (cc H f R)==left H W f)≠[]:=fun z=>by
  obtain ⟨R,hR,e⟩:=JQ (H:=H) (W:=W) (f:=f)
  have:=List.filter_eq_nil_iff.mp z R hR
  simp [e] at this
 obtain ⟨R,rest,eR⟩:∃R rest,(LL 1 (H - 1)).filter (fun R=>Cd W H (cc H f R)==left H W f)=R::rest:=by
  cases hc:(LL 1 (H - 1)).filter (fun R=>Cd W H (cc H f R)==left H W f) with
  |nil=>exact absurd hc hne
  |cons a r=>exact ⟨a,r,rfl⟩
 have hm:R∈(LL 1 (H - 1)).filter (fun R=>Cd W H (cc H f R)==left H W f):=by rw [eR];exact A8
 rw [qb7] at hm
 refine ⟨R,hm.1,by simpa using hm.2,fun h=>?_⟩
 change Wp (Am 3 (Mi Bs BI Cj EB) [bD H W f] h) _
 rw [A4]
 simp [-Ai]
 refine (Pf hh hw).wp fun h1 s1=>?_
 rw [Ai]
 simp [J9]
 obtain ⟨l,h2,e,s2,el⟩:=TJ (f:=f) (h:=h1) hh hw
 refine E2 (src:=[(l,Ef H W (H - 1) f)]) (xs:=LL 1 (H - 1)) (φ:=fun R=>.tup [AH (H - 1+1) R,BU W (cc H f R)]) (fun R=>Cd W H (cc H f R)==left H W f) (fun R=>.tup [AH (H - 1+1) R,AH W (Eu H (cc H f R))]) (fun R=>[some (AH (H - 1+1) R),some (BU W (cc H f R)),some (.int (H:Nat)),some (.int (left H W f))]) (TK e s2 el) (TL hh) (fun R _=>rfl) (fun R _ h' s'=>?_) (fun R _ _ h' s'=>?_) fun l3 h3 s3 e3=>?_
 ·simp [Pu]
  refine (TH hw.2).wp fun h4 s4=>?_
  simp [s4]
 ·simp [Pu]
  refine (Zcx hw.2).wp fun h4 s4=>?_
  simp [s4]
 ·rw [show (0:Int)=((0:Nat):Int) from rfl,E3 e3 (k:=0) (a:=.tup [AH (H - 1+1) R,AH W (Eu H (cc H f R))]) (by rw [eR];rfl)]
  simp [s1.trans s3,BO,show H - 1+1=H by omega]
theorem Zcz (hh:1≤H∧H≤8) (hw:1≤W∧W≤8):Pu (EK [bD H W f] h) h (.int ((List.range H).map fun i=>Bj W (f i)).sum):=by
 change Wp (Am 1 (O0 Cu) [bD H W f] h) _
 rw [A4]
 simp
 refine (TB hh hw).wp fun h1 s1=>?_
 simp [QT,s1]
theorem TY (hh:1≤H∧H≤8) (hw:1≤W∧W≤8):Pu (CL [bD H W f,BO H W p q] h) h (.bl (TT H W f p q==left H W f)):=by
 change Wp (Am 2 (Mj Du EK Bs) [bD H W f,BO H W p q] h) _
 rw [A4]
 simp
 refine (Zb1 hh hw).wp fun h1 s1=>?_
 refine (Zcz hh hw).wp fun h2 s2=>?_
 refine (Pf hh hw).wp fun h3 s3=>?_
 rw [NW]
 simp [(s1.trans s2).trans s3]
end
section
variable {ρ:Aj} {h:HD} {R:Str→List (Str×D)→HD→Prop}
theorem ZcA {f:ME} {Q:_→HD→Prop}:We (Bq f ρ h) Q R=We (f ρ h) (fun d h1=>We (FA d h1) Q R) R:=by unfold Bq;rw [Cg]
theorem ZcB {cs:List (Option Nat)} {it:MI} {sg:MG} {t:MT} {f:ME} {n:Str} (e:Er (it ρ h) h n):Er (AX cs it sg t f ρ h) h n:=by
 unfold AX
 show We _ _ _
 rw [Cg]
 exact e.we fun h' s=>⟨rfl,rfl,s⟩
theorem ZcC {f:ME} {n:Str} (e:Er (f ρ h) h n):Er (Bq f ρ h) h n:=by
 show We _ _ _
 rw [ZcA]
 exact e.we fun h' s=>⟨rfl,rfl,s⟩
theorem ZcD {fa:MA} {Q:D→HD→Prop}:We (AW fa ρ h) Q R=We (fa ρ h) (fun xs h1=>We (if xs.length≤sizeLine then .ok (.tup xs) h1 else .stuck) Q R) R:=by unfold AW;rw [Cg]
theorem ZcE {fa:MA} {Q:D→HD→Prop}:We (Ba fa ρ h) Q R=We (fa ρ h) (fun xs h1=>We (B6 xs h1) Q R) R:=by unfold Ba;rw [Cg]
variable {d x:D} {f:Nat→Nat→Bool} {H W:Nat}
theorem ZcF {c:Str} (n:Er (Bk [d] h) h c):Er (Ed [d] h) h c:=by
 change We (Am 1 (Md Bk) [d] h) _ _
 refine Eq.mpr Ey ?_
 simp
 exact n.we fun h1 s1=>⟨rfl,rfl,s1⟩
theorem ZcG {c:Str} (n:Er (Bk [d] h) h c):Er (Ee [d] h) h c:=by
 change We (Am 1 (Me Ed Cu) [d] h) _ _
 refine Eq.mpr Ey ?_
 simp
 exact (ZcF n).we fun h1 s1=>⟨rfl,rfl,s1⟩
theorem ZcH {c:Str} (n:Er (Bk [d] h) h c):Er (BI [d] h) h c:=by
 change We (Am 3 (Mg Ee EA) [d] h) _ _
 refine Eq.mpr Ey ?_
 simp [ZcE,ZcD]
 exact (ZcG n).we fun h1 s1=>⟨rfl,rfl,s1⟩
theorem TZ {c:Str} (n:Er (Bk [d] h) h c):Er (Bs [d] h) h c:=by
 change We (Am 1 (Mh BI Cj) [d] h) _ _
 refine Eq.mpr Ey ?_
 rw [YC,RQ,RR]
 refine (ZcB (ZcC ?_)).we fun h1 s1=>⟨rfl,rfl,s1⟩
 show We _ _ _
 rw [RQ,RR]
 show We _ _ _
 simp
 exact (ZcH n).we fun h1 s1=>⟨rfl,rfl,s1⟩
theorem ZcI {c:Str} (n:Er (Bk [d] h) h c):Er (Dc [d] h) h c:=by
 change We (Am 3 (Mi Bs BI Cj EB) [d] h) _ _
 refine Eq.mpr Ey ?_
 simp
 exact (TZ n).we fun h1 s1=>⟨rfl,rfl,s1⟩
theorem T1 {c:Str} (n:Er (Du [d,x] h) h c):Er (CL [d,x] h) h c:=by
 change We (Am 2 (Mj Du EK Bs) [d,x] h) _ _
 refine Eq.mpr Ey ?_
 simp
 exact n.we fun h1 s1=>⟨rfl,rfl,s1⟩
end
theorem T3 {n:Nat} {e:Nat→D}:(List.range n).map e++[e n]=(List.range (n+1)).map e:=by simp [DD]
def HB (f:Nat→Nat→Bool) (p q:Nat→Bool):Nat→Nat→Bool:=fun i j=>Bool.xor (f i j) (Bool.xor (p i) (q j))
inductive T4 (H W:Nat) (f:Nat→Nat→Bool) (p q:Nat→Bool) (h:HD) (l:Nat) (xs:List Nat) (ρ:Aj) (h':HD):Prop where
 |mk (k:Nat) (d4 d5 d6 d7 d8:Option D) (f0:xs=(List.range H).drop k) (f1:k≤H) (f2:ρ=[some (bD H W f),some (AH H p),some (AH W q),some (.loc l),d4,d5,d6,d7,d8]) (f3:Sm h h') (f4:h'[l]?=some (.lst ((List.range k).map fun i=>AK W (HB f p q i)))):T4 H W f p q h l xs ρ h'
inductive T6 (H W:Nat) (f:Nat→Nat→Bool) (p q:Nat→Bool) (h1:HD) (l k m:Nat) (xs:List Nat) (ρ:Aj) (h':HD):Prop where
 |mk (j:Nat) (d7 d8:Option D) (f0:xs=(List.range W).drop j) (f1:j≤W) (f2:ρ=[some (bD H W f),some (AH H p),some (AH W q),some (.loc l),some (.int (k:Nat)),some (AK W (f k)),some (.loc m),d7,d8]) (f3:Sm h1 h') (f4:h'[m]?=some (.lst ((List.range j).map fun j=>lit (HB f p q k j)))):T6 H W f p q h1 l k m xs ρ h'
theorem ZcJ {H W:Nat} {f:Nat→Nat→Bool} {p q:Nat→Bool} {h:HD} (hh:1≤H∧H≤8) (hw:1≤W∧W≤8):Pu (Fg [bD H W f,AH H p,AH W q] h) h (bD H W (HB f p q)):=by
 change Wp (Am 9 OK [bD H W f,AH H p,AH W q] h) _
 refine Eq.mpr (A4) ?_
 simp [-Ai]
 refine A2 (by simp) fun l h1 s1 e1 el _=>?_
 refine Eq.mpr (Ai) ?_
 simp [-Ai]
 refine D8 (src:=[]) (xs:=List.range H) (fun i=>.tup [.int ((i:Nat):Int),AK W (f i)]) (T4 H W f p q h l) ?_ (fun ys ρ h' _=>DG) ?_ ?_
 ·simp [bD,IC]
  exact ⟨0,_,_,_,_,_,by simp,by omega,rfl,s1,e1⟩
 ·rintro x xs ρ h' ⟨k,d4,d5,d6,d7,d8,ex,hk,rfl,s,e⟩
  obtain ⟨rfl,hk',rfl⟩:=Ka ex.symm
  refine ⟨_,rfl,?_⟩
  simp [-Ai]
  refine A2 (by simp) fun m h2 s2 e2 em _=>?_
  refine Eq.mpr (Ai) ?_
  simp [-Ai]
  have ll:=(qa2.mp e).1
  have hlm:l≠m:=by omega
  refine D8 (src:=[]) (xs:=List.range W) (fun j=>.tup [.int ((j:Nat):Int),lit (f x j)]) (T6 H W f p q h' l x m) ?_ (fun ys ρ h' _=>DG) ?_ ?_
  ·simp [AK,IC]
   exact ⟨0,_,_,by simp,by omega,rfl,s2,e2⟩
  ·rintro y ys ρ h3 ⟨j,c7,c8,ey,hj,rfl,s3,e3⟩
   obtain ⟨rfl,hj',rfl⟩:=Ka ey.symm
   refine ⟨_,rfl,?_⟩
   simp [GK e3,Mp hk',Mp hj']
   have ev:∀(Q:D→HD→Prop),Q (lit (HB f p q x y)) h3→Wp (AL (lit (f x y)) (D.int (if p x=true then 1 else 0)) h3) fun a h1=>Wp (AL a (D.int (if q y=true then 1 else 0)) h1) fun a h1=>Wp (Ek a (D.int 2) h1) Q:=by
    intro Q hQ
    have key:∀a b c:Bool,((if a then 1 else 0:Int)+(if b=true then 1 else 0)+(if c=true then 1 else 0)) % 2=if Bool.xor a (Bool.xor b c) then 1 else 0:=by decide
    have e:=Iq (i:=(if f x y then 1 else 0:Int)+(if p x=true then 1 else 0)+(if q y=true then 1 else 0)) (j:=2) (h:=h3) (by decide)
    rw [key] at e
    exact (show Wp (Ek (.int ((if f x y then 1 else 0:Int)+(if p x=true then 1 else 0)+(if q y=true then 1 else 0))) (.int 2) h3) Q from e ▸ hQ)
   refine ev _ ?_
   refine Az (JH e3 (by simp;unfold sizeLine;omega)) ?_
   have lm:=(qa2.mp e3).1
   simp [CV]
   refine ⟨y+1,_,_,rfl,by omega,rfl,Sm.put s3 (by omega),?_⟩
   rw [Cy lm,←T3]
  ·rintro ρ h3 ⟨j,c7,c8,ey,hj,rfl,s3,e3⟩
   have:=Kb hj ey.symm
   subst this
   have e':=s3 _ _ e
   have ll':=(qa2.mp e').1
   simp [GK e',Le e3]
   refine Az (JH e' (by simp;unfold sizeLine;omega)) ?_
   simp [CV]
   refine ⟨x+1,_,_,_,_,_,rfl,by omega,rfl,Sm.put (s.trans s3) (by omega),?_⟩
   rw [Cy ll',←T3]
   rfl
 ·rintro ρ h' ⟨k,d4,d5,d6,d7,d8,ex,hk,rfl,s,e⟩
  have:=Kb hk ex.symm
  subst this
  simp [Le e]
  exact ⟨rfl,s⟩
theorem Gk {H W:Nat} {p q:Nat→Bool} {h:HD}:AC (BO H W p q) (.int 0) h=.ok (AH H p) h:=rfl
theorem Gm {H W:Nat} {p q:Nat→Bool} {h:HD}:AC (BO H W p q) (.int 1) h=.ok (AH W q) h:=rfl
section
variable {H W:Nat} {f:Nat→Nat→Bool} {p q:Nat→Bool} {h:HD}
theorem T7 (hh:1≤H∧H≤8) (hw:1≤W∧W≤8):Pu (DR [bD H W f,BO H W p q] h) h (.int (TT H W f p q)):=by
 change Wp (Am 2 (OU Fg) [bD H W f,BO H W p q] h) _
 rw [A4]
 simp
 refine Pu.wp (Ls (src:=[]) (xs:=List.range H) (φ:=fun i=>AK W (HB f p q i)) (fun i=>Bj W (HB f p q i)) (fun i=>[some (AK W (HB f p q i))]) ?_ (fun x _=>rfl) (fun x hx h' s'=>?_) (sz hh.2)) fun h2 s2=>?_
 ·unfold Cq
  simp [Gk,Gm]
  refine (ZcJ hh hw).wp fun h1 s1=>?_
  simp [bD,s1,By]
 ·simp [Pu,Tz,Sm.refl]
 ·refine ⟨?_,s2⟩
  rw [←NW]
  rfl
end
theorem ZcK {l k:Nat} {ds:List D} {ps:List PyData} {h:HD} (e1:h[l]?=some (.lst ds)) (e2:h[k]?=some (.lst ds)) (hp:AV (ds.map (AS h 7))=some ps) (hs:SeqAt.shaped (.list ps)=true):BC (.loc l) (.loc k) h=.ok (.bl false) h:=by
 have a:∀j,h[j]?=some (.lst ds)→AS h 8 (.loc j)=some (.list ps):=fun j e=>by
  simp only [AS,e,hp,FT]
 change DF (.loc l) (.loc k) h=_
 simp only [DF,Fy,a l e1,a k e2]
 rw [if_pos ⟨hs,hs⟩,SeqAt.eqv_refl _ (SeqAt.canLay_of_shaped hs)]
 rfl
theorem ZcL {α:Type} {l k n:Nat} {xs:List α} {e:α→D} {g:α→PyData} {h:HD} (e1:h[l]?=some (.lst (xs.map e))) (e2:h[k]?=some (.lst (xs.map e))) (hn:n≤6) (hx:∀x∈xs,PyN n (e x) (g x)):BC (.loc l) (.loc k) h=.ok (.bl false) h:=by
 refine ZcK (ps:=xs.map g) e1 e2 ?_ ?_
 ·rw [Eg]
  exact FD fun x hx'=>JG ((hx x hx').rd 7 (by omega))
 ·unfold SeqAt.shaped
  have l0:(PyData.list (xs.map g)).canLay0=true:=by
   rw [PyData.canLay0];exact Lh fun x h=>(hx x h).ly
  have d0:(PyData.list (xs.map g)).depth≤n+1:=by
   rw [PyData.depth]
   exact Kn (Li fun x h=>(hx x h).dp)
  rw [l0]
  simp
  omega
theorem ZcM {l k:Nat} {ds:List D} {ps:List PyData} {h:HD} (e1:h[l]?=some (.lst ds)) (e2:h[k]?=some (.lst ds)) (hp:AV (ds.map (AS h 7))=some ps) (hs:SeqAt.shaped (.list ps)=true):CH (.loc l) (.loc k) h=.ok (.bl true) h:=by
 have a:∀j,h[j]?=some (.lst ds)→AS h 8 (.loc j)=some (.list ps):=fun j e=>by
  simp only [AS,e,hp,FT]
 change GF (.loc l) (.loc k) h=_
 simp only [GF,Fy,a l e1,a k e2]
 rw [if_pos ⟨hs,hs⟩,SeqAt.eqv_refl _ (SeqAt.canLay_of_shaped hs)]
theorem ZcN {α:Type} {l k n:Nat} {xs:List α} {e:α→D} {g:α→PyData} {h:HD} (e1:h[l]?=some (.lst (xs.map e))) (e2:h[k]?=some (.lst (xs.map e))) (hn:n≤6) (hx:∀x∈xs,PyN n (e x) (g x)):CH (.loc l) (.loc k) h=.ok (.bl true) h:=by
 refine ZcM (ps:=xs.map g) e1 e2 ?_ ?_
 ·rw [Eg]
  exact FD fun x hx'=>JG ((hx x hx').rd 7 (by omega))
 ·unfold SeqAt.shaped
  have l0:(PyData.list (xs.map g)).canLay0=true:=by
   rw [PyData.canLay0];exact Lh fun x h=>(hx x h).ly
  have d0:(PyData.list (xs.map g)).depth≤n+1:=by
   rw [PyData.depth]
   exact Kn (Li fun x h=>(hx x h).dp)
  rw [l0]
  simp
  omega
section
variable {n:Nat} {p:Nat→Bool} {h:HD}
theorem ZcO:((List.range n).filter p).Pairwise (·< ·):=List.Pairwise.filter _ List.pairwise_lt_range
theorem Ms:((List.range n).filter p).length≤n:=by have:=Kh p (List.range n);simpa using this
theorem T8 (hn:n≤8):Pu (DO [AH n p,.int (n:Nat)] h) h (.bl true):=by
 change Wp (Am 2 OM [AH n p,.int (n:Nat)] h) _
 rw [A4]
 unfold AH
 simp [-Ai]
 rw [Ai]
 simp [-Ai]
 refine E2 (src:=[]) (xs:=(List.range n).filter p) (φ:=fun i=>.int ((i:Nat):Int)) (fun _=>false) (fun i=>.int ((i:Nat):Int)) (fun i=>[some (.int ((i:Nat):Int)),some (.int (n:Nat))]) Ip (Kd (Ca Ms (by omega))) (fun x _=>rfl) (fun x hx h' s'=>?_) (fun x hx z=>by cases z) fun l h1 s1 e1=>?_
 ·have hx':x<n:=by simpa using (qb7.mp hx).1
  simp [Pu,AG,hx',Sm.refl]
 ·refine A2 (by simp) fun m h2 s2 e2 em _=>?_
  rw [ZcL (xs:=([]:List Nat)) (e:=fun i=>D.int ((i:Nat):Int)) (g:=fun i=>PyData.int ((i:Nat):Int)) (n:=0) (s2 _ _ (by rw [e1,List.filter_eq_nil_iff.mpr (by simp)])) (by simpa using e2) (by omega) (fun x hx=>by cases hx)]
  simp [-Ai]
  rw [Ai]
  simp [-Ai]
  unfold LS.listOfD
  simp only [BA]
  refine A2 (by rw [CA];exact Kd (Ca Ms (by omega))) fun a h3 s3 e3 ea _=>?_
  rw [ZQ]
  simp only [JF]
  rw [SO ZcO (fun x hx=>A0 (by simpa using (qb7.mp hx).1:x<n) hn) (by have:=Ms (n:=n) (p:=p);omega)]
  refine A2 (by rw [CA];exact Kd (Ca Ms (by omega))) fun b h4 s4 e4 eb _=>?_
  rw [ZcN (xs:=(List.range n).filter p) (e:=fun i=>D.int ((i:Nat):Int)) (g:=fun i=>PyData.int ((i:Nat):Int)) (n:=0) (s4 _ _ e3) e4 (by omega) (fun x hx=>Lj)]
  exact ⟨rfl,((s1.trans s2).trans s3).trans s4⟩
end
@[irreducible] noncomputable def Mt:MS:=Aw 2 (Ag EF (Aa (Ab 0) (Aa (Ab 1) (Ad))))
@[irreducible] noncomputable def Mu:MS:=Ic 3 4 (Aa (Ah AL (mC (.int 1)) (Ag AD (Aa (Ab 2) (Aa (mC (.int 8)) (Ad))))) (Aa (Ah AL (mC (.int 1)) (Ag AD (Aa (Ab 2) (Aa (mC (.int 8)) (Ad))))) (Ad)))
@[irreducible] noncomputable def Mv:MS:=Aw 5 (Ag EI (Aa (Ab 2) (Aa (Ab 3) (Aa (Ab 4) (Ad)))))
@[irreducible] noncomputable def Mw:MS:=Aw 6 (Ag EH (Aa (Ab 5) (Ad)))
@[irreducible] noncomputable def Mx:MS:=Bh (Bc (Ah BC (Ag (An Ds) (Aa (Ag Bs (Aa (Ab 5) (Ad))) (Ad))) (Ag (An Ds) (Aa (Ab 6) (Ad))))) (Av (mC (.bl false))) (Bp)
@[irreducible] noncomputable def My:MS:=Aw 7 (Ag Dc (Aa (Ab 5) (Ad)))
@[irreducible] noncomputable def Mz:MS:=Bh (Cm (BS (BR (Ag (Bd AO) (Aa (Ab 7) (Aa (mC (.ty "tuple")) (Ad)))))) (Cm (Bc (Ah BC (Ag (An Bn) (Aa (Ab 7) (Ad))) (mC (.int 2)))) (Bc (Ah BC (Ag Dc (Aa (Ab 5) (Ad))) (Ab 7))))) (Av (mC (.bl false))) (Bp)
@[irreducible] noncomputable def MB:MS:=Bh (Cm (BS (BR (Ag DO (Aa (Ah AC (Ab 7) (mC (.int 0))) (Aa (Ab 3) (Ad)))))) (Cm (BS (BR (Ag DO (Aa (Ah AC (Ab 7) (mC (.int 1))) (Aa (Ab 4) (Ad)))))) (Bc (Ah BC (Ag DR (Aa (Ab 5) (Aa (Ab 7) (Ad)))) (Ab 6))))) (Av (mC (.bl false))) (Bp)
@[irreducible] noncomputable def Ke:MS:=BZ (Dq (Aa (mC (.int 4)) (Ad))) (A5 8) (Ak (Aw 9 (AW (Aa (Ag DP (Aa (Ab 2) (Aa (Ab 3) (Ad)))) (Aa (Ag DP (Aa (Ab 2) (Aa (Ab 4) (Ad)))) (Ad))))) (Bh (Bc (Ah BC (Ag (An Ds) (Aa (Ag CL (Aa (Ab 5) (Aa (Ab 9) (Ad)))) (Ad))) (Ag (An Ds) (Aa (Ah CH (Ag DR (Aa (Ab 5) (Aa (Ab 9) (Ad)))) (Ab 6)) (Ad))))) (Av (mC (.bl false))) (Bp)))
@[irreducible] noncomputable def MC:MS:=Bh (Bc (Ah Js (Ag CL (Aa (Ab 5) (Aa (Ab 7) (Ad)))) (mC (.bl true)))) (Av (mC (.bl false))) (Bp)
@[irreducible] noncomputable def MD:MS:=Aw 10 (Ba (Aa (AW (Aa (Ag DQ (Aa (Ab 2) (Aa (Ab 3) (Ad)))) (Aa (Ah AC (Ab 7) (mC (.int 1))) (Ad)))) (Aa (AW (Aa (Ah AC (Ab 7) (mC (.int 0))) (Aa (Ag DQ (Aa (Ab 2) (Aa (Ab 4) (Ad)))) (Ad)))) (Aa (mC .non) (Aa (Ba (Ad)) (Aa (Ah AC (Ab 7) (mC (.int 0))) (Ad)))))))
@[irreducible] noncomputable def MF:MS:=Aw 11 (Ag EG (Aa (Ab 2) (Aa (Ab 5) (Ad))))
@[irreducible] noncomputable def Kf:MS:=BZ (Bq (Ab 10)) (A5 12) (Ak (Bh (Bc (Ah BC (DM [5,12] Ct (Ag CL (Aa (Ab 0) (Aa (Ab 1) (Ad))))) (mC (.str "! switching")))) (Av (mC (.bl false))) (Bp)) (Bh (Bc (Ah BC (DM [11,12] Ct (Ag CL (Aa (Ab 0) (Aa (Ab 1) (Ad))))) (mC (.str "! board")))) (Av (mC (.bl false))) (Bp)))
@[irreducible] noncomputable def Kg:MS:=BZ (Bq (Ba (Aa (mC (.glo "left_many")) (Aa (mC (.glo "best_switching")) (Ad))))) (A5 13) (Bh (Bc (Ah BC (DM [13,11] Ct (IP [("left_many",Bs),("best_switching",Dc)] (Ab 0) (Aa (Ab 1) (Ad)))) (mC (.str "! board")))) (Av (mC (.bl false))) (Bp))
theorem T9 {T:List (Str×(List D→HD→Out D))} {n:Str} {F:List D→HD→Out D} {fa:MA} {r:Aj} {h:HD} {Q:D→HD→Prop} {R:Str→List (Str×D)→HD→Prop} (hT:T.lookup n=some F):
 We (IP T (Ab 0) fa (some (.glo n)::r) h) Q R=We (fa (some (.glo n)::r) h) (fun ds h1=>We (F ds h1) Q R) R:=by
 have:IP T (Ab 0) fa (some (.glo n)::r) h=(fa (some (.glo n)::r) h).bind F:=by
  unfold IP
  show (Out.ok (D.glo n) h).bind _=_
  simp only [Out.bind_ok,hT]
 rw [this,Cg]
def Dj (ns:List Int) (k b H W:Nat) (f:Nat→Nat→Bool) (p q:Nat→Bool) (c8 c9 c10 c11 c12 c13:Option D):Aj:=[some (.scr ns),some (.int (k:Nat)),some (.loc b),some (.int (H:Nat)),some (.int (W:Nat)),some (bD H W f),some (.int (left H W f)),some (BO H W p q),c8,c9,c10,c11,c12,c13]
section
variable {ns:List Int} {k b H W:Nat} {f:Nat→Nat→Bool} {p q:Nat→Bool} {c8 c9 c10 c11 c12 c13:Option D} {h:HD} {Q:Fl×Aj→HD→Prop}
inductive Ua (ns:List Int) (k b H W:Nat) (f:Nat→Nat→Bool) (p q:Nat→Bool) (c8 c9 c10 c11 c13:Option D) (h:HD) (L:Nat) (ds:List D) (xs:List D) (ρ:Aj) (h':HD):Prop where
 |mk (d12:Option D) (f0:ρ=Dj ns k b H W f p q c8 c9 c10 c11 d12 c13) (f1:Sm h h') (f2:h'[L]?=some (.lst ds)) (f3:∀d∈xs,NoS h H W d):Ua ns k b H W f p q c8 c9 c10 c11 c13 h L ds xs ρ h'
theorem ZcP {e:D} {L:Nat} {ds:List D} (hh:1≤H∧H≤8) (hw:1≤W∧W≤8) (ht:TabAt h) (he:NoB h e) (eL:h[L]?=some (.lst ds)) (hd:∀d∈ds,NoS h H W d)
 (q1:∀d12 h',Sm h h'→Q (.nx,Dj ns k b H W f p q c8 c9 (some (.loc L)) (some e) d12 c13) h'):
 Wp (Kf (Dj ns k b H W f p q c8 c9 (some (.loc L)) (some e) c12 c13) h) Q:=by
 unfold Kf BZ
 refine Eq.mpr AG ?_
 unfold Dj
 simp
 refine Az (GO eL) ?_
 refine Eq.mpr (B7 _ _) ?_
 refine Eq.mp (congrArg (fun z=>Wp (Em _ _ _ _ z _ _) _) (List.map_id' ds)) ?_
 refine Lc (src:=[(L,ds)]) (fun d:D=>d) (Ua ns k b H W f p q c8 c9 (some (.loc L)) (some e) c13 h L ds) (fun ys ρ h' z=>by obtain ⟨_,_,_,e,_⟩:=z;exact GH e) ?_ ?_
  ds _ _ ⟨_,rfl,Sm.refl _,eL,hd⟩
 ·rintro d xs ρ h' ⟨d12,rfl,s,eL',hp⟩
  refine ⟨_,rfl,?_⟩
  have nd:=(hp d A8).sm s
  simp [Dj,-Ai]
  refine Zcg (ds:=[bD H W f,d]) (ht.sm s) rfl ?_ fun h4 s4=>?_
  ·unfold Er
   simp
   exact T1 (ZbW hh hw nd.1 nd.2)
  try simp [-Ai]
  refine Eq.mpr Ai ?_
  simp
  have s04:=s.trans s4
  refine Tx (ds:=[e,d]) (ht.sm s04) rfl ?_ fun h6 s6=>?_
  ·unfold Er
   simp
   exact T1 (Zb9 (he.sm s04))
  simp [CV]
  have s46:=s4.trans s6
  exact ⟨_,rfl,s.trans s46,s46 _ _ eL',fun y hy=>hp y (Bf _ hy)⟩
 ·rintro ρ h' ⟨d12,rfl,s,eL',hp⟩
  exact q1 _ h' s
inductive Ub (ns:List Int) (k b H W:Nat) (f:Nat→Nat→Bool) (p q:Nat→Bool) (c8 c9 c10 c11 c12:Option D) (h:HD) (xs:List Str) (ρ:Aj) (h':HD):Prop where
 |mk (d13:Option D) (f0:ρ=Dj ns k b H W f p q c8 c9 c10 c11 c12 d13) (f1:Sm h h') (f2:h'[h.length]?=some (.lst [.glo "left_many",.glo "best_switching"])) (f3:∀n∈xs,n="left_many"∨n="best_switching"):Ub ns k b H W f p q c8 c9 c10 c11 c12 h xs ρ h'
theorem ZcQ {e:D} (ht:TabAt h) (he:NoB h e) (q1:∀d13 h',Sm h h'→Q (.nx,Dj ns k b H W f p q c8 c9 c10 (some e) c12 d13) h'):
 Wp (Kg (Dj ns k b H W f p q c8 c9 c10 (some e) c12 c13) h) Q:=by
 unfold Kg
 refine D8 (src:=[(h.length,(["left_many","best_switching"]:List Str).map fun n:Str=>D.glo n)]) (xs:=(["left_many","best_switching"]:List Str)) (fun n:Str=>D.glo n) (Ub ns k b H W f p q c8 c9 c10 (some e) c12 h) ?_ (fun ys ρ h' z=>by obtain ⟨_,_,_,e,_⟩:=z;exact GH e) ?_ ?_
 ·simp [Dj]
  refine A2 (by simp) fun l h5 s5 e5 el _=>?_
  subst el
  refine Az (GO e5) ?_
  refine ⟨rfl,_,rfl,s5,e5,fun p hp=>?_⟩
  simpa using hp
 ·rintro n xs ρ h5 ⟨d13,rfl,s5,e5,hn⟩
  refine ⟨_,rfl,?_⟩
  have hn1:=hn _ A8
  have ne5:=he.sm s5
  simp [Dj,-Ai]
  refine Tx (ds:=[.glo n,e]) (ht.sm s5) rfl ?_ fun h6 s6=>?_
  ·unfold Er
   rcases hn1 with rfl |rfl
   ·simp only [Bu,Gu]
    rw [T9 (F:=Bs) rfl]
    simp
    exact TZ (O4 ne5.1 ne5.2)
   ·simp only [Bu,Gu]
    rw [T9 (F:=Dc) rfl]
    simp
    exact ZcI (O4 ne5.1 ne5.2)
  simp [CV]
  exact ⟨_,rfl,s5.trans s6,s6 _ _ e5,fun y hy=>hn y (Bf _ hy)⟩
 ·rintro ρ h5 ⟨d13,rfl,s5,e5,hn⟩
  exact q1 _ h5 s5
end
theorem ZcR:∀n<100,(((toString ((n:Nat):Int)):String):Str).length≤3:=by decide +kernel
theorem ZcS:∀n<100,((n:Nat):Int).natAbs.log2<1920:=by decide +kernel
theorem ZcT {b:Bool}:∃x:Str,∀h,Ds (.bl b) h=.ok (.str x) h:=by cases b<;>exact ⟨_,fun h=>rfl⟩
theorem rp_int {n:Nat} (hn:n<100):∃x:Str,∀h,Ds (.int (n:Nat)) h=.ok (.str x) h:=by
 have l1:=ZcR n hn
 have g1:=ZcS n hn
 refine ⟨(((toString ((n:Nat):Int)):String):Str),fun h=>?_⟩
 unfold Ds
 have e:AS h 8 (.int (n:Nat))=some (.int (n:Nat)):=rfl
 rw [e]
 simp only
 rw [if_pos ⟨by simpa [PyData.showable] using g1,rfl,DE _,by unfold sizeLine;exact Ca l1 (by decide)⟩]
 rfl
section
variable {ns:List Int} {k b H W:Nat} {f:Nat→Nat→Bool} {p q:Nat→Bool} {c8 c9 c10 c11 c12 c13:Option D} {h:HD} {Q:Fl×Aj→HD→Prop}
theorem ZcU:0≤left H W f:=by
 obtain ⟨R,_,e⟩:=JQ (H:=H) (W:=W) (f:=f)
 rw [←e]
 unfold Cd
 rw [←NU (xs:=List.range W)]
 refine Lu fun j _=>?_
 have:=Rq (n:=H) (r:=fun i=>Bool.xor (f i j) (R i))
 have e2:cc H f R j=Bj H (fun i=>Bool.xor (f i j) (R i)):=rfl
 rw [e2]
 split<;>omega
theorem ZcV (W:Nat):((List.range W).map fun _=>(8:Int)).sum=8*W:=by
 induction W with
 |zero=>rfl
 |succ n ih=>rw [DD,DT,FU,ih];simp;omega
theorem ZcW (hh:H≤8) (hw:W≤8):left H W f≤64:=by
 obtain ⟨R,_,e⟩:=JQ (H:=H) (W:=W) (f:=f)
 rw [←e]
 unfold Cd
 refine Int.le_trans (b:=((List.range W).map fun _=>(8:Int)).sum) (Lu fun j _=>?_) (by rw [ZcV];omega)
 have:=Rq (n:=H) (r:=fun i=>Bool.xor (f i j) (R i))
 have e2:cc H f R j=Bj H (fun i=>Bool.xor (f i j) (R i)):=rfl
 rw [e2]
 split<;>omega
theorem ZcX (hh:H≤8) (hw:W≤8):∃x:Str,∀h,Ds (.int (left H W f)) h=.ok (.str x) h:=by
 have h1:=ZcU (H:=H) (W:=W) (f:=f)
 have h2:=ZcW (H:=H) (W:=W) (f:=f) hh hw
 obtain ⟨n,e⟩:∃n:Nat,left H W f=(n:Int):=⟨(left H W f).toNat,by omega⟩
 rw [e]
 exact rp_int (by omega)
theorem ZcY:BC (BO H W p q) (BO H W p q) h=.ok (.bl false) h:=by
 have py:Py (BO H W p q) (.tuple [.tuple (((List.range H).filter p).map fun i=>.int ((i:Nat):Int)),.tuple (((List.range W).filter q).map fun i=>.int ((i:Nat):Int))]):=by
  have a:PyN 2 (BO H W p q) _:=Ir (n:=1) (xs:=[(H,p),(W,q)]) (e:=fun x=>AH x.1 x.2) (g:=fun x=>.tuple (((List.range x.1).filter x.2).map fun i=>.int ((i:Nat):Int))) fun x _=>Ir (n:=0) fun j _=>Lj
  exact a.py (by decide)
 change DF _ _ h=_
 have ly:PyData.canLay0 (.tuple [.tuple (((List.range H).filter p).map fun i=>.int ((i:Nat):Int)),.tuple (((List.range W).filter q).map fun i=>.int ((i:Nat):Int))])=true:=by
  have a:PyN 2 (BO H W p q) _:=Ir (n:=1) (xs:=[(H,p),(W,q)]) (e:=fun x=>AH x.1 x.2) (g:=fun x=>.tuple (((List.range x.1).filter x.2).map fun i=>.int ((i:Nat):Int))) fun x _=>Ir (n:=0) fun j _=>Lj
  exact a.ly
 rw [W2 py py,SeqAt.eqv_refl _ (SeqAt.canLay_of_shaped ?_)]
 ·rfl
 ·unfold SeqAt.shaped
  rw [ly]
  have a:PyN 2 (BO H W p q) _:=Ir (n:=1) (xs:=[(H,p),(W,q)]) (e:=fun x=>AH x.1 x.2) (g:=fun x=>.tuple (((List.range x.1).filter x.2).map fun i=>.int ((i:Nat):Int))) fun x _=>Ir (n:=0) fun j _=>Lj
  have:=a.dp
  simp at this ⊢
  omega
inductive Uc (ns:List Int) (k b H W:Nat) (f:Nat→Nat→Bool) (p q:Nat→Bool) (c10 c11 c12 c13:Option D) (xs:List Nat) (ρ:Aj) (h':HD):Prop where
 |mk (d8 d9:Option D) (f0:ρ=Dj ns k b H W f p q d8 d9 c10 c11 c12 c13) (f1:BoxAt h' b) (f2:TabAt h'):Uc ns k b H W f p q c10 c11 c12 c13 xs ρ h'
theorem ZcZ (hh:1≤H∧H≤8) (hw:1≤W∧W≤8) (hb:0<b) (hx:BoxAt h b) (ht:TabAt h) (q1:∀d8 d9 h',BoxAt h' b→TabAt h'→Q (.nx,Dj ns k b H W f p q d8 d9 c10 c11 c12 c13) h'):
 Wp (Ke (Dj ns k b H W f p q c8 c9 c10 c11 c12 c13) h) Q:=by
 unfold Ke
 refine D8 (src:=[]) (xs:=List.range 4) (fun i=>.int ((i:Nat):Int)) (Uc ns k b H W f p q c10 c11 c12 c13) ?_ (fun ys ρ h' _=>DG) ?_ ?_
 ·simp [Dj]
  refine Az (Gd (n:=4) (by omega)) ?_
  exact ⟨rfl,_,_,rfl,hx,ht⟩
 ·rintro x xs ρ h' ⟨d8,d9,rfl,x1,t1⟩
  refine ⟨_,rfl,?_⟩
  simp [Dj,-Ai]
  refine Tn x1 hh.2 fun p1 h2 x2 s2=>?_
  try simp [-Ai]
  refine Tn x2 hw.2 fun p2 h3 x3 s3=>?_
  have t3:=(t1.smx s2 hb).smx s3 hb
  try simp [-Ai]
  refine Eq.mpr Ai ?_
  simp
  refine (TY (p:=p1) (q:=p2) hh hw).wp fun h4 s4=>?_
  obtain ⟨y,ry⟩:=ZcT (b:=(TT H W f p1 p2==left H W f))
  refine Az (ry h4) ?_
  simp
  refine (T7 (p:=p1) (q:=p2) hh hw).wp fun h5 s5=>?_
  simp
  refine Az (ry h5) ?_
  simp [CV]
  have s35:=s4.trans s5
  exact ⟨_,_,rfl,x3.sm s35,t3.sm s35⟩
 ·rintro ρ h' ⟨d8,d9,rfl,x1,t1⟩
  exact q1 _ _ _ x1 t1
end
theorem Zc0 {H W:Nat} {p q:Nat→Bool} {h:HD}:AO (BO H W p q) (.ty "tuple") h=.ok (.bl true) h:=rfl
theorem Zc1 {H W:Nat} {p q:Nat→Bool} {h:HD}:Bn (BO H W p q) h=.ok (.int 2) h:=rfl
noncomputable abbrev Zc2:MS:=Ak Mt (Ak Mu (Ak Mv (Ak Mw (Ak Mx (Ak My (Ak Mz (Ak MB (Ak Ke (Ak MC (Ak MD (Ak MF (Ak Kf Kg))))))))))))
theorem Zc3 {ns:List Int} {k:Nat} {h:HD} {a2 a3 a4 a5 a6 a7 a8 a9 a10 a11 a12 a13:Option D} {Q:Fl×Aj→HD→Prop} (hb:∀i∈ns,Builtin.Int.intBits i≤2^20) (hk:k≤1000) (ht:TabAt h)
 (q:∀(b2 b3 b4 b5 b6 b7 b8 b9 b10 b11 b12 b13:Option D) h',TabAt h'→Q (.nx,[some (.scr ns),some (.int (k:Nat)),b2,b3,b4,b5,b6,b7,b8,b9,b10,b11,b12,b13]) h'):
 Wp (Zc2 [some (.scr ns),some (.int (k:Nat)),a2,a3,a4,a5,a6,a7,a8,a9,a10,a11,a12,a13] h) Q:=by
 refine Eq.mpr Cp ?_
 simp only [Mt,NA,Il,Im,Lb,JF,GJ]
 refine ZbA hb hk fun b h1 x1 lb s1=>?_
 have hb0:0<b:=by have:=ht.pos;omega
 have t1:=ht.sm s1
 refine Eq.mpr Ai ?_
 refine Eq.mpr Cp ?_
 unfold Mu
 try simp [-Ai]
 refine FN x1 hb0 t1 (by decide) (by decide) fun d1 h2 l1 x2 t2 _=>?_
 try simp [-Ai]
 refine FN x2 hb0 t2 (by decide) (by decide) fun d2 h3 l2 x3 t3 _=>?_
 try simp [-Ai]
 obtain ⟨H,eH,hh⟩:∃H:Nat,(1:Int)+(d1:Int)=(H:Int)∧1≤H∧H≤8:=⟨1+d1,by omega,by omega,by omega⟩
 obtain ⟨W,eW,hw⟩:∃W:Nat,(1:Int)+(d2:Int)=(W:Int)∧1≤W∧W≤8:=⟨1+d2,by omega,by omega,by omega⟩
 rw [eH,eW]
 refine Eq.mpr Ai ?_
 refine Eq.mpr Cp ?_
 unfold Mv
 try simp [-Ai]
 refine Zb4 x3 hh hw fun f h4 x4 s4=>?_
 have t4:=t3.smx s4 hb0
 refine Eq.mpr Ai ?_
 refine Eq.mpr Cp ?_
 unfold Mw
 try simp [-Ai]
 refine (Zcw hh hw).wp fun h5 s5=>?_
 refine Eq.mpr Ai ?_
 refine Eq.mpr Cp ?_
 unfold Mx
 obtain ⟨y,ry⟩:=ZcX (f:=f) hh.2 hw.2
 try simp [-Ai]
 refine (Pf hh hw).wp fun h6 s6=>?_
 refine Az (ry h6) ?_
 try simp [-Ai]
 refine Az (ry h6) ?_
 try simp [-Ai]
 refine Eq.mpr Ai ?_
 refine Eq.mpr Cp ?_
 obtain ⟨R,_,eR,hbest⟩:=Zcy (f:=f) hh hw
 have eT:TT H W f R (Eu H (cc H f R))=left H W f:=by rw [←eR];exact NX
 unfold My
 try simp [-Ai]
 refine (hbest h6).wp fun h7 s7=>?_
 refine Eq.mpr Ai ?_
 refine Eq.mpr Cp ?_
 unfold Mz
 try simp [-Ai,Zc0,Zc1]
 refine (hbest h7).wp fun h8 s8=>?_
 try simp [-Ai,ZcY]
 refine Eq.mpr Ai ?_
 refine Eq.mpr Cp ?_
 unfold MB
 generalize Eu H (cc H f R)=C at eT
 try simp [-Ai,Gk,Gm]
 refine (T8 hh.2).wp fun h9 s9=>?_
 try simp [-Ai,Gk,Gm]
 refine (T8 hw.2).wp fun h10 s10=>?_
 try simp [-Ai,Gk,Gm]
 refine (T7 hh hw).wp fun h11 s11=>?_
 rw [eT]
 try simp [-Ai]
 refine Eq.mpr Ai ?_
 refine Eq.mpr Cp ?_
 have s411:=(((((s5.trans s6).trans s7).trans s8).trans s9).trans s10).trans s11
 have x11:=x4.sm s411
 have t11:=t4.sm s411
 clear x1 x2 x3 x4 t1 t2 t3 t4 s1 s4 s5 s6 s7 s8 s9 s10 s11 s411 eH eW l1 l2 ht
 refine ZcZ (ns:=ns) (k:=k) (b:=b) (f:=f) (p:=R) (q:=C) hh hw hb0 x11 t11 fun d8 d9 h12 x12 t12=>?_
 refine Eq.mpr Ai ?_
 refine Eq.mpr Cp ?_
 unfold MC
 simp [-Ai,Dj]
 refine (TY hh hw).wp fun h13 s13=>?_
 rw [eT]
 try simp [-Ai]
 refine Eq.mpr Ai ?_
 refine Eq.mpr Cp ?_
 have x14:=x12.sm s13
 have t14:=t12.sm s13
 unfold MD
 try simp [-Ai,Gk,Gm]
 refine Tv x14 hb0 t14 hh fun e1 h15 n1 x15 t15 s15=>?_
 try simp [-Ai,Gk,Gm]
 refine Tv x15 hb0 t15 hw fun e2 h16 n2 x16 t16 s16=>?_
 have n1:=n1.smx s16 x16
 try simp [-Ai,Gk,Gm]
 refine A2 (by simp) fun l17 h17 s17 e17 _ _=>?_
 try simp [-Ai,Gk,Gm]
 refine A2 (by simp) fun L h18 s18 e18 el _=>?_
 refine Eq.mpr Ai ?_
 refine Eq.mpr Cp ?_
 have s168:=s17.trans s18
 have x18:=x16.sm s168
 have t18:=t16.sm s168
 have nL:L≠b:=by have:=(x16.sm s17).lt;omega
 have m1:=n1.sm s168
 have m2:=n2.sm s168
 obtain ⟨ds,eL,hds⟩:∃ds,h18[L]?=some (.lst ds)∧∀d∈ds,NoS h18 H W d:=by
  exact ⟨_,e18,all_cons ⟨Pc m1.1 Mo,Zcb m1.2⟩ <| all_cons ⟨Pc Mo m2.1,Zcc m2.2⟩ <| all_cons ⟨O9 trivial rfl,rfl⟩ <| all_cons ⟨O9 ⟨_,s18 _ _ e17⟩ rfl,rfl⟩ <| all_cons ⟨Zce,Zcd⟩ CN⟩
 clear e18
 unfold MF
 try simp [-Ai]
 refine ZbU x18 hb0 t18 hh hw fun e h19 ne x19 t19 s19=>?_
 refine Eq.mpr Ai ?_
 refine Eq.mpr Cp ?_
 refine ZcP (ns:=ns) (k:=k) (b:=b) (f:=f) (p:=R) (q:=C) hh hw t19 ne (s19 _ _ nL eL) (fun d hd=>(hds d hd).smx s19 x19) fun d12 h20 s20=>?_
 refine Eq.mpr Ai ?_
 refine ZcQ (t19.sm s20) (ne.sm s20) fun d13 h21 s21=>?_
 exact q _ _ _ _ _ _ _ _ _ _ _ _ h21 ((t19.sm s20).sm s21)
def IL (ns:List Int) (xs:List Nat) (ρ:Aj) (h':HD):Prop:=∃d1 d2 d3 d4 d5 d6 d7 d8 d9 d10 d11 d12 d13,ρ=[some (.scr ns),d1,d2,d3,d4,d5,d6,d7,d8,d9,d10,d11,d12,d13]∧TabAt h'∧∀k∈xs,k≤1000
theorem Zc4:Mk EF AD EI EH Bs Dc DO DR DP CL DQ EG Ct=Ak (BZ (Dq (Aa (Ag (Bd Jw) (Aa (mC (.int 1)) (Aa (Ag (Bd F7) (Aa (Ag (An Bn) (Aa (Ab 0) (Ad))) (Aa (mC (.int 4)) (Ad)))) (Ad)))) (Ad))) (A5 1) (Ak Mt (Ak Mu (Ak Mv (Ak Mw (Ak Mx (Ak My (Ak Mz (Ak MB (Ak Ke (Ak MC (Ak MD (Ak MF (Ak Kf (Kg))))))))))))))) (Av (mC (.bl true))):=by
 unfold Mt Mu Mv Mw Mx My Mz MB Ke MC MD MF Kf Kg
 rfl
theorem law_true (ns:List Int) (hl:ns.length≤63) (hb:∀i∈ns,Builtin.Int.intBits i≤2^20):∃h',F_law [.scr ns] [.tab]=.ok (.bl true) h':=by
 have main:Wp (F_law [.scr ns] [.tab]) fun d _=>d=.bl true:=by
  change Wp (Am 14 (Mk EF AD EI EH Bs Dc DO DR DP CL DQ EG Ct) [.scr ns] [.tab]) _
  rw [Zc4,A4,Cp]
  obtain ⟨n,en,hn⟩:∃n:Nat,(if (if (4:Int)<(ns.length:Int) then (4:Int) else (ns.length:Int))>1 then (if (4:Int)<(ns.length:Int) then (4:Int) else (ns.length:Int)) else 1)=(n:Int)∧n≤99:=by
   have h0:0≤(if (if (4:Int)<(ns.length:Int) then (4:Int) else (ns.length:Int))>1 then (if (4:Int)<(ns.length:Int) then (4:Int) else (ns.length:Int)) else 1)∧(if (if (4:Int)<(ns.length:Int) then (4:Int) else (ns.length:Int))>1 then (if (4:Int)<(ns.length:Int) then (4:Int) else (ns.length:Int)) else 1)≤99:=by
    constructor<;>(split<;>split<;>omega)
   generalize (if (if (4:Int)<(ns.length:Int) then (4:Int) else (ns.length:Int))>1 then (if (4:Int)<(ns.length:Int) then (4:Int) else (ns.length:Int)) else 1)=E at h0
   exact ⟨E.toNat,by omega,by omega⟩
  refine D8 (src:=[]) (xs:=List.range n) (fun i=>.int ((i:Nat):Int)) (IL ns) ?_ (fun ys ρ h' _=>DG) ?_ ?_
  ·simp
   rw [en,Gd (by omega)]
   exact ⟨rfl,_,_,_,_,_,_,_,_,_,_,_,_,_,rfl,rfl,fun k hk=>by have:=qbM.mp hk;omega⟩
  ·rintro x xs ρ h' ⟨d1,d2,d3,d4,d5,d6,d7,d8,d9,d10,d11,d12,d13,rfl,t,hx⟩
   refine ⟨_,rfl,?_⟩
   refine Zc3 hb (hx x A8) t fun b2 b3 b4 b5 b6 b7 b8 b9 b10 b11 b12 b13 h2 t2=>?_
   simp [CV]
   exact ⟨_,_,_,_,_,_,_,_,_,_,_,_,_,rfl,t2,fun k hk=>hx k (Bf _ hk)⟩
  ·rintro ρ h' ⟨d1,d2,d3,d4,d5,d6,d7,d8,d9,d10,d11,d12,d13,rfl,t,hx⟩
   simp
 obtain ⟨a,h',e,rfl⟩:=Wp.ex main
 exact ⟨h',e⟩
end LK
set_option maxHeartbeats 0
namespace LK
open PySem PySem.Spec PyProof.Rows L2 LS
def Pg:Tp.Want:=⟨[(("is_whole":Str),GV),(("is_line_tuple":Str),GW),(("row_switched":Str),GX),(("counts_with_row":Str),GY),(("fewest_lit":Str),GZ),(("fuller_columns":Str),G0),(("_law_cell":Str),G1),(("_law_mix":Str),G2),(("_law_take":Str),G3),(("_law_kind":Str),G4),(("_law_switched":Str),G5),(("_law_ones":Str),G6),(("_law_is_lot":Str),G7),(("is_between":Str),G8),(("is_lot":Str),G9),(("_law_box":Str),Ha),(("_law_wide_box":Str),Hb),(("_law_no_board":Str),Hc),(("_law_lot":Str),Hd),(("_law_no_lot":Str),He),(("_law_least":Str),Hf),(("_law_lit":Str),Hg),(("is_light":Str),Hh),(("_law_board":Str),Hi),(("is_row":Str),Hj),(("is_board":Str),Hk),(("need_board":Str),Hl),(("row_counts":Str),Hm),(("is_switching":Str),Hn),(("turned":Str),Ho),(("lit_many":Str),Hq),(("column_counts":Str),Hr),(("need_switching":Str),Hs),(("switched":Str),Ht),(("lots_with_counts":Str),Hu),(("left_many":Str),Hv),(("best_switching":Str),Hw),(("is_best":Str),Hx),(("law":Str),s_law),(("_law_said":Str),J5)],[(("MOST_LINES":Str),(8:Int))],["ValueError","all","bool","divmod","enumerate","int","isinstance","len","list","max","min","range","repr","set","sorted","sum","tuple","zip"]⟩
theorem all_mk {l:PySem.W.OpenLaw} {w:World} {K:PySem.W.Frag} {h:Heap} {mg:Str→Option Value} {fa c T:Addr} (HS:Tp.Has Pg K c T) (X:K.In h) (G:h.Ns mainGlobals mg) (hfa:mg "law"=some (.ref fa)):
 ∃fd:FuncData,(∀(s:Shared) (v:Value),BindsTo s fd ⟨[v],[]⟩ [("_law_script",v)])∧∀base:Heap,K.In base→base.Ns mainGlobals mg→IK mg base→FnOk l.prog w K mg base (As l.prog w K) 14 fa fd ["_law_script"] (E4 K F_law):=by
 obtain ⟨fs,cs,bs,et,tb,hd,no⟩:=HS
 obtain ⟨_,_,_,_,_,_,_,_,_,_,a0,l0,c0,k0⟩:=fs 0 "is_whole" GV rfl
 obtain ⟨_,_,_,_,_,_,_,_,_,_,a1,l1,c1,k1⟩:=fs 1 "is_line_tuple" GW rfl
 obtain ⟨_,_,_,_,_,_,_,_,_,_,a2,l2,c2,k2⟩:=fs 2 "row_switched" GX rfl
 obtain ⟨_,_,_,_,_,_,_,_,_,_,a3,l3,c3,k3⟩:=fs 3 "counts_with_row" GY rfl
 obtain ⟨_,_,_,_,_,_,_,_,_,_,a4,l4,c4,k4⟩:=fs 4 "fewest_lit" GZ rfl
 obtain ⟨_,_,_,_,_,_,_,_,_,_,a5,l5,c5,k5⟩:=fs 5 "fuller_columns" G0 rfl
 obtain ⟨_,_,_,_,_,_,_,_,_,_,a6,l6,c6,k6⟩:=fs 6 "_law_cell" G1 rfl
 obtain ⟨_,_,_,_,_,_,_,_,_,_,a7,l7,c7,k7⟩:=fs 7 "_law_mix" G2 rfl
 obtain ⟨_,_,_,_,_,_,_,_,_,_,a8,l8,c8,k8⟩:=fs 8 "_law_take" G3 rfl
 obtain ⟨_,_,_,_,_,_,_,_,_,_,a9,l9,c9,k9⟩:=fs 9 "_law_kind" G4 rfl
 obtain ⟨_,_,_,_,_,_,_,_,_,_,a10,l10,c10,k10⟩:=fs 10 "_law_switched" G5 rfl
 obtain ⟨_,_,_,_,_,_,_,_,_,_,a11,l11,c11,k11⟩:=fs 11 "_law_ones" G6 rfl
 obtain ⟨_,_,_,_,_,_,_,_,_,_,a12,l12,c12,k12⟩:=fs 12 "_law_is_lot" G7 rfl
 obtain ⟨_,_,_,_,_,_,_,_,_,_,a13,l13,c13,k13⟩:=fs 13 "is_between" G8 rfl
 obtain ⟨_,_,_,_,_,_,_,_,_,_,a14,l14,c14,k14⟩:=fs 14 "is_lot" G9 rfl
 obtain ⟨_,_,_,_,_,_,_,_,_,_,a15,l15,c15,k15⟩:=fs 15 "_law_box" Ha rfl
 obtain ⟨_,_,_,_,_,_,_,_,_,_,a16,l16,c16,k16⟩:=fs 16 "_law_wide_box" Hb rfl
 obtain ⟨_,_,_,_,_,_,_,_,_,_,a17,l17,c17,k17⟩:=fs 17 "_law_no_board" Hc rfl
 obtain ⟨_,_,_,_,_,_,_,_,_,_,a18,l18,c18,k18⟩:=fs 18 "_law_lot" Hd rfl
 obtain ⟨_,_,_,_,_,_,_,_,_,_,a19,l19,c19,k19⟩:=fs 19 "_law_no_lot" He rfl
 obtain ⟨_,_,_,_,_,_,_,_,_,_,a20,l20,c20,k20⟩:=fs 20 "_law_least" Hf rfl
 obtain ⟨_,_,_,_,_,_,_,_,_,_,a21,l21,c21,k21⟩:=fs 21 "_law_lit" Hg rfl
 obtain ⟨_,_,_,_,_,_,_,_,_,_,a22,l22,c22,k22⟩:=fs 22 "is_light" Hh rfl
 obtain ⟨_,_,_,_,_,_,_,_,_,_,a23,l23,c23,k23⟩:=fs 23 "_law_board" Hi rfl
 obtain ⟨_,_,_,_,_,_,_,_,_,_,a24,l24,c24,k24⟩:=fs 24 "is_row" Hj rfl
 obtain ⟨_,_,_,_,_,_,_,_,_,_,a25,l25,c25,k25⟩:=fs 25 "is_board" Hk rfl
 obtain ⟨_,_,_,_,_,_,_,_,_,_,a26,l26,c26,k26⟩:=fs 26 "need_board" Hl rfl
 obtain ⟨_,_,_,_,_,_,_,_,_,_,a27,l27,c27,k27⟩:=fs 27 "row_counts" Hm rfl
 obtain ⟨_,_,_,_,_,_,_,_,_,_,a28,l28,c28,k28⟩:=fs 28 "is_switching" Hn rfl
 obtain ⟨_,_,_,_,_,_,_,_,_,_,a29,l29,c29,k29⟩:=fs 29 "turned" Ho rfl
 obtain ⟨_,_,_,_,_,_,_,_,_,_,a30,l30,c30,k30⟩:=fs 30 "lit_many" Hq rfl
 obtain ⟨_,_,_,_,_,_,_,_,_,_,a31,l31,c31,k31⟩:=fs 31 "column_counts" Hr rfl
 obtain ⟨_,_,_,_,_,_,_,_,_,_,a32,l32,c32,k32⟩:=fs 32 "need_switching" Hs rfl
 obtain ⟨_,_,_,_,_,_,_,_,_,_,a33,l33,c33,k33⟩:=fs 33 "switched" Ht rfl
 obtain ⟨_,_,_,_,_,_,_,_,_,_,a34,l34,c34,k34⟩:=fs 34 "lots_with_counts" Hu rfl
 obtain ⟨_,_,_,_,_,_,_,_,_,_,a35,l35,c35,k35⟩:=fs 35 "left_many" Hv rfl
 obtain ⟨_,_,_,_,_,_,_,_,_,_,a36,l36,c36,k36⟩:=fs 36 "best_switching" Hw rfl
 obtain ⟨_,_,_,_,_,_,_,_,_,_,a37,l37,c37,k37⟩:=fs 37 "is_best" Hx rfl
 obtain ⟨f_law,_,an_law,_,_,kV_law,dc_law,pm_law,cd_law,ct_law,a_law,l_law,c_law,k_law⟩:=fs 38 "law" s_law rfl
 obtain ⟨_,_,_,_,_,_,_,_,_,_,a39,l39,c39,k39⟩:=fs 39 "_law_said" J5 rfl
 cases Tp.tab_cd tb a_law l_law
 have e:=hfa.symm.trans (PySem.W.mg_of X G a_law)
 cases e
 have S_D:SaidD K mg J5 _ _:=SaidD.of (CW X G l39 c39 k39 a39 (fun _ _ _ _ _ _ _=>rfl))
 have B:Bl mg:=⟨PySem.W.mg_none_of X G (bs 0 "ValueError" rfl),PySem.W.mg_none_of X G (bs 1 "all" rfl),PySem.W.mg_none_of X G (bs 2 "bool" rfl),PySem.W.mg_none_of X G (bs 3 "divmod" rfl),PySem.W.mg_none_of X G (bs 4 "enumerate" rfl),PySem.W.mg_none_of X G (bs 5 "int" rfl),PySem.W.mg_none_of X G (bs 6 "isinstance" rfl),PySem.W.mg_none_of X G (bs 7 "len" rfl),PySem.W.mg_none_of X G (bs 8 "list" rfl),PySem.W.mg_none_of X G (bs 9 "max" rfl),PySem.W.mg_none_of X G (bs 10 "min" rfl),PySem.W.mg_none_of X G (bs 11 "range" rfl),PySem.W.mg_none_of X G (bs 12 "repr" rfl),PySem.W.mg_none_of X G (bs 13 "set" rfl),PySem.W.mg_none_of X G (bs 14 "sorted" rfl),PySem.W.mg_none_of X G (bs 15 "sum" rfl),PySem.W.mg_none_of X G (bs 16 "tuple" rfl),PySem.W.mg_none_of X G (bs 17 "zip" rfl)⟩
 obtain ⟨t_MOST_LINES,v_MOST_LINES⟩:=cs 0 "MOST_LINES" 8 rfl
 have M_MOST_LINES:=PySem.W.mg_of X G v_MOST_LINES
 refine ⟨PySem.W.fnOf "law" "law" (defArgs s_law) (defBody s_law) (defScope s_law) .none kV_law dc_law pm_law an_law (.ref c) ct_law,fun s v=>.of_eq rfl,fun base _ _ hbm=>?_⟩
 have C0:=ZaW (P:=l.prog) (w:=w) (base:=base) B et (CW X G l0 c0 k0 a0 fun _ _ _ _ _ _ _=>rfl)
 have C1:=ZaX (P:=l.prog) (w:=w) (base:=base) B et M_MOST_LINES (CW X G l1 c1 k1 a1 fun _ _ _ _ _ _ _=>rfl)
 have C2:=ZaY (P:=l.prog) (w:=w) (base:=base) B et (LH X G l2 c2 k2 a2 fun _ _ _ _ _ _ _ _ _=>rfl)
 have C3:=ZaZ (P:=l.prog) (w:=w) (base:=base) B et (CY X G l3 c3 k3 a3 fun _ _ _ _ _ _ _ _=>rfl)
 have C4:=Za0 (P:=l.prog) (w:=w) (base:=base) B et (CY X G l4 c4 k4 a4 fun _ _ _ _ _ _ _ _=>rfl)
 have C5:=Za1 (P:=l.prog) (w:=w) (base:=base) B et (CY X G l5 c5 k5 a5 fun _ _ _ _ _ _ _ _=>rfl)
 have C6:=Za2 (P:=l.prog) (w:=w) (base:=base) B et (CY X G l6 c6 k6 a6 fun _ _ _ _ _ _ _ _=>rfl)
 have C7:=Za3 (P:=l.prog) (w:=w) (base:=base) B et (CY X G l7 c7 k7 a7 fun _ _ _ _ _ _ _ _=>rfl)
 have C8:=Za4 (P:=l.prog) (w:=w) (base:=base) B et (CY X G l8 c8 k8 a8 fun _ _ _ _ _ _ _ _=>rfl)
 have C9:=Za5 (P:=l.prog) (w:=w) (base:=base) B et (CW X G l9 c9 k9 a9 fun _ _ _ _ _ _ _=>rfl)
 have C10:=Za6 (P:=l.prog) (w:=w) (base:=base) B et (LH X G l10 c10 k10 a10 fun _ _ _ _ _ _ _ _ _=>rfl)
 have C11:=Za7 (P:=l.prog) (w:=w) (base:=base) B et (Zo X G l11 c11 k11 a11 fun _ _ _ _ _ _=>rfl)
 have C12:=Za8 (P:=l.prog) (w:=w) (base:=base) B et (CY X G l12 c12 k12 a12 fun _ _ _ _ _ _ _ _=>rfl)
 have C13:=Za9 (P:=l.prog) (w:=w) (base:=base) B et C0 (LH X G l13 c13 k13 a13 fun _ _ _ _ _ _ _ _ _=>rfl)
 have C14:=Zba (P:=l.prog) (w:=w) (base:=base) B et C0 (CY X G l14 c14 k14 a14 fun _ _ _ _ _ _ _ _=>rfl)
 have C15:=Zbb (P:=l.prog) (w:=w) (base:=base) B et C6 C7 (CY X G l15 c15 k15 a15 fun _ _ _ _ _ _ _ _=>rfl)
 have C16:=Zbc (P:=l.prog) (w:=w) (base:=base) B et C8 (CW X G l16 c16 k16 a16 fun _ _ _ _ _ _ _=>rfl)
 have C17:=Zbd (P:=l.prog) (w:=w) (base:=base) B et C8 (CY X G l17 c17 k17 a17 fun _ _ _ _ _ _ _ _=>rfl)
 have C18:=Zbe (P:=l.prog) (w:=w) (base:=base) B et C8 (CY X G l18 c18 k18 a18 fun _ _ _ _ _ _ _ _=>rfl)
 have C19:=Zbf (P:=l.prog) (w:=w) (base:=base) B et C8 (CY X G l19 c19 k19 a19 fun _ _ _ _ _ _ _ _=>rfl)
 have C20:=Zbg (P:=l.prog) (w:=w) (base:=base) B et C11 (CW X G l20 c20 k20 a20 fun _ _ _ _ _ _ _=>rfl)
 have C21:=Zbh (P:=l.prog) (w:=w) (base:=base) B et C10 (CY X G l21 c21 k21 a21 fun _ _ _ _ _ _ _ _=>rfl)
 have C22:=Zbi (P:=l.prog) (w:=w) (base:=base) B et C13 (CW X G l22 c22 k22 a22 fun _ _ _ _ _ _ _=>rfl)
 have C23:=Zbj (P:=l.prog) (w:=w) (base:=base) B et C8 C16 (LH X G l23 c23 k23 a23 fun _ _ _ _ _ _ _ _ _=>rfl)
 have C24:=Zbk (P:=l.prog) (w:=w) (base:=base) B et C1 C22 (CW X G l24 c24 k24 a24 fun _ _ _ _ _ _ _=>rfl)
 have C25:=Zbl (P:=l.prog) (w:=w) (base:=base) B et C1 C24 (CW X G l25 c25 k25 a25 fun _ _ _ _ _ _ _=>rfl)
 have C26:=Zbm (P:=l.prog) (w:=w) (base:=base) B et C25 (CW X G l26 c26 k26 a26 fun _ _ _ _ _ _ _=>rfl)
 have C27:=Zbn (P:=l.prog) (w:=w) (base:=base) B et C26 (CW X G l27 c27 k27 a27 fun _ _ _ _ _ _ _=>rfl)
 have C28:=Zbo (P:=l.prog) (w:=w) (base:=base) B et C26 C14 (CY X G l28 c28 k28 a28 fun _ _ _ _ _ _ _ _=>rfl)
 have C29:=Zbp (P:=l.prog) (w:=w) (base:=base) B et C26 (CW X G l29 c29 k29 a29 fun _ _ _ _ _ _ _=>rfl)
 have C30:=Zbq (P:=l.prog) (w:=w) (base:=base) B et C27 (CW X G l30 c30 k30 a30 fun _ _ _ _ _ _ _=>rfl)
 have C31:=Zbr (P:=l.prog) (w:=w) (base:=base) B et C29 C27 (CW X G l31 c31 k31 a31 fun _ _ _ _ _ _ _=>rfl)
 have C32:=Zbs (P:=l.prog) (w:=w) (base:=base) B et C28 (CY X G l32 c32 k32 a32 fun _ _ _ _ _ _ _ _=>rfl)
 have C33:=Zbt (P:=l.prog) (w:=w) (base:=base) B et C32 C2 (CY X G l33 c33 k33 a33 fun _ _ _ _ _ _ _ _=>rfl)
 have C34:=Zbu (P:=l.prog) (w:=w) (base:=base) B et C31 C3 (CW X G l34 c34 k34 a34 fun _ _ _ _ _ _ _=>rfl)
 have C35:=Zbv (P:=l.prog) (w:=w) (base:=base) B et C34 C4 (CW X G l35 c35 k35 a35 fun _ _ _ _ _ _ _=>rfl)
 have C36:=Zbw (P:=l.prog) (w:=w) (base:=base) B et C35 C34 C4 C5 (CW X G l36 c36 k36 a36 fun _ _ _ _ _ _ _=>rfl)
 have C37:=Zbx (P:=l.prog) (w:=w) (base:=base) B et C33 C30 C35 (CY X G l37 c37 k37 a37 fun _ _ _ _ _ _ _ _=>rfl)
 exact YB l_law c_law sc_law (fun ds h e=>if_neg e) (fun ds h e=>if_pos e) (fun A outer s H E hr=>ZaV B et C15 C8 C23 C20 C35 C36 C12 C21 C18 C37 C19 C17 C9 a36 a35 tb hd hbm S_D _ A outer s H E hr)
end LK
namespace LK
open PySem PySem.W
abbrev top_q:Program:=view PySem.Challenge.pw_lineswitch_k31_what_is_left [55]
abbrev top_loose:List Str:=(PySem.Challenge.pw_lineswitch_k31_what_is_left.main.scope.names.map (·.1)).filter fun x=>!(x=="law")
set_option maxHeartbeats 0 in
theorem top_left:LeftO PySem.Challenge.pw_lineswitch_k31_what_is_left top_q top_loose (fun _=>true) (Tp.obsK Pg) (fun _=>Tp.valK Pg) 1000000:=
 Tp.left_of (n:=57) (by kernel_rfl) (fun s=>by kernel_rfl) (fun w=>by kernel_rfl) (fun w os=>by
  rw [PySem.W.Fast.te10156331382660048174,PySem.W.Fast.te11892475500146522536,PySem.W.Fast.te14364793385576792824,PySem.W.Fast.te10110043849684766642,PySem.W.Fast.te6613529449190102663,PySem.W.Fast.te4187177175401517315,PySem.W.Fast.te5923862056798008813]
  kernel_rfl)
end LK
open PySem PySem.W PyProof.Rows
set_option maxRecDepth 100000 in
set_option maxHeartbeats 0 in
theorem PySem.Challenge.cw_lineswitch_k31_what_is_left_holds : PySem.Challenge.rw_lineswitch_k31_what_is_left.Holds := by
 w_on;o_law
 refine PySem.W.holds_open (q:=LK.top_q) (loose:=LK.top_loose) (d:=⟨"law",L2.defArgs LK.s_law,L2.defBody LK.s_law,L2.defScope LK.s_law,_⟩) (kwd:=[]) (Xt:=fun _=>true) (XP:=fun _ _=>True) (N:=1000000) LK.top_left Tp.says_of Tp.Says.keeps (fun _ _=>trivial) (fun _ _ _ _ _=>trivial) (by rfl) (by kernel_rfl) (by kernel_rfl) (fun s _=>recFacts_nil (by rfl)) (by rfl) (by assumption) (by kernel_rfl) ⟨rfl,rfl,rfl,rfl,rfl,by decide +kernel⟩ ?hw ?hc
 case hw=>w_witness2
 case hc=>exact LS.walk_hd (n:=63) (k:=14) (x:="_law_script") (F:=LK.F_law) rfl (by decide) rfl ⟨rfl,by decide,by decide,rfl⟩ (fun w K c T mg fa h HS X G hfa=>LK.all_mk HS X G hfa) LK.law_true
