import PyProof.Rows.All
import KE.IntBitsLaws
import KE.KIntText
import KE.KItem
import KE.KNestM
import KE.KTryMore
import PySem.Challenge.RW_lineswitch_k98_desks_answer
set_option Elab.async false
set_option linter.all false
set_option maxRecDepth 100000
noncomputable section
abbrev PQ:=List (PySem.Addr×PySem.Obj)
abbrev BF:=Nat→Nat→Bool
abbrev SZ (n:Nat):Prop:=1≤n∧n≤8
open PySem.W (Frag OpenLaw callWith_K callWith_K0 cellsFrom_some codeIn codeRec_of emptyDict findIn fnOf handedIn hasDictIn instObj isFn keepIn kia_one kitOne kitx_list lookIn makesIn methodCall_KW mg_of nsIn nsOkIn plainGet plainGet_of plainOver tailIn takerIn typeIn)
abbrev AW:=@PySem.Heap.get?_push_of_some
abbrev qa1:=@List.getElem?_eq_some_iff
abbrev AI:=@List.prefix_refl
abbrev A2:=@List.mem_cons_of_mem
abbrev AX:=@List.mem_cons_self
abbrev Bl:=@List.getElem?_eq_getElem
abbrev qa6:=@List.mem_cons
abbrev AK:=@Nat.le_refl
abbrev Bh:=@List.size_toArray
abbrev Bn:=@Nat.lt_of_lt_of_le
abbrev AY:=@PySem.Heap.lt_size
abbrev BA:=@List.mem_append_right
abbrev Bx:=@PySem.Heap.get?_push_size
abbrev BP:=@List.getElem?_set_self
abbrev BI:=@List.getElem?_set_ne
abbrev BE:=@Bool.false_ne_true
abbrev qaG:=@List.mem_singleton
abbrev Bk:=@List.map_cons
abbrev Cf:=@List.map_congr_left
abbrev Cg:=@List.getElem?_map
abbrev Cz:=@Bool.false_eq_true
abbrev Ca:=@List.map_append
abbrev Ci:=@List.length_map
abbrev BJ:=@Nat.le_trans
abbrev qaO:=@List.mem_map
abbrev Cp:=@List.range_succ
abbrev BQ:=@List.map_map
abbrev BX:=@Nat.ne_of_lt
abbrev CP:=@Bool.and_eq_true
abbrev qaT:=@List.all_eq_true
abbrev EG:=@List.getD_eq_getElem?_getD
abbrev EH:=@List.getElem?_append_left
abbrev Dc:=@List.length_cons
abbrev CQ:=@PySem.Heap.size_push
abbrev DE:=@List.length_append
abbrev CG:=@Nat.ne_of_gt
abbrev D8:=@List.getElem?_range
abbrev qb1:=@List.mem_append
abbrev Dw:=@List.sum_append
abbrev qb3:=@List.mem_range
abbrev qb4:=@Bool.eq_iff_iff
abbrev E3:=@Nat.pow_le_pow_right
abbrev qb6:=@Option.map_eq_some_iff
abbrev D9:=@List.not_mem_nil
abbrev FM:=@List.mem_of_getElem?
abbrev G3:=@List.drop_eq_getElem_cons
abbrev E4:=@List.lookup_cons
abbrev Ea:=@Nat.lt_irrefl
abbrev IF:=@List.getElem?_append_right
abbrev Gg:=@List.replicate_succ
abbrev FN:=@Nat.le_add_right
abbrev G4:=@List.mem_append_left
abbrev FO:=@List.append_nil
abbrev qbH:=@List.nodup_cons
abbrev EI:=@Nat.zero_le
abbrev qbJ:=@Bool.and_eq_true_iff
abbrev G5:=@List.flatten_cons
abbrev IG:=@List.filterMap_cons
abbrev IH:=@List.getElem_of_mem
abbrev G6:=@List.ext_getElem
abbrev J5:=@List.take_of_length_le
abbrev II:=@List.prefix_append
abbrev qbQ:=@List.mem_filter
abbrev G7:=@List.nil_append
abbrev G8:=@Option.map_some
abbrev J6:=@List.length_filter_le
abbrev IJ:=@Nat.lt_succ_of_lt
abbrev IK:=@List.flatMap_cons
abbrev IM:=@Nat.lt_succ_self
abbrev qbX:=@Option.isSome_iff_exists
abbrev IP:=@Nat.le_of_not_lt
abbrev G9:=@List.sum_cons
abbrev J7:=@List.append_assoc
abbrev J8:=@List.length_range
abbrev Ha:=@Nat.succ_mul
abbrev Hb:=@List.map_nil
abbrev J9:=@List.getElem_mem
abbrev Hc:=@Nat.pow_pos
abbrev Ka:=@List.length_nil
abbrev Kb:=@List.foldl_cons
abbrev IQ:=@Nat.le_of_lt
abbrev IR:=@Nat.le_of_eq
abbrev N4:=@List.getElem?_take_of_lt
abbrev Lk:=@List.zip_cons_cons
abbrev N5:=@List.getElem?_replicate
abbrev N6:=@List.filter_cons_of_neg
abbrev N7:=@List.filter_cons_of_pos
abbrev N8:=@List.getElem?_cons_succ
abbrev Ll:=@Int.toNat_natCast
abbrev Lm:=@Nat.le_of_succ_le
abbrev IS:=@Nat.le_succ
abbrev N9:=@PySem.Heap.get?_update_other
abbrev Ln:=@List.length_take
abbrev Lo:=@List.length_drop
abbrev Lp:=@List.nodup_range
abbrev Oa:=@PySem.Heap.get?_update_self
abbrev Ob:=@List.length_singleton
abbrev Oc:=@List.getElem?_eq_none
abbrev Lq:=@List.of_mem_zip
abbrev Lr:=@List.length_set
abbrev Kc:=@Nat.mul_comm
abbrev Ls:=@Nat.le_antisymm
abbrev Lu:=@List.forIn_cons
abbrev Lw:=@List.drop_zero
abbrev Lx:=@Nat.mul_le_mul
abbrev Aj:=@PySem.wpAny_bind
abbrev AD:=@PySem.wpAny_pure
abbrev Bm:=@PySem.wpAny_mono
abbrev DN:=@PySem.wpAny_holding
abbrev EJ:=@PySem.wpAny_newObj_type
abbrev Gh:=@PySem.wpAny_truthy_bool
namespace L2
open PySem PySem.Spec PyProof.Rows
def wq (s:Stmt):Arguments:=match s with
 |.FunctionDef _ a _ _ _ _ _ _ _ _=>a
 |_=>{posonlyargs:=[],args:=[],vararg:=none,kwonlyargs:=[],kw_defaults:=[],kwarg:=none,defaults:=[]}
def wh (s:Stmt):List Stmt:=match s with
 |.FunctionDef _ _ b _ _ _ _ _ _ _=>b
 |_=>[]
def wb (s:Stmt):Scope:=match s with
 |.FunctionDef _ _ _ _ _ _ a _ _ _=>a
 |_=>{kind:=.function,names:=[],isGenerator:=false,isCoroutine:=false}
end L2
namespace LS
open PySem PySem.Spec PyProof.Rows L2
section
variable {K:Frag} {m m':List Addr} {H H':Hp}
noncomputable def tabP (K:Frag) (g:Str):Option (Addr×Addr):=match nsIn K mainGlobals g with
 |some (some (.ref f))=>(match K.lookup f with
  |some ⟨_,_,.func a,_⟩=>(match a.code with
   |.ref c=>(match K.lookup c with
    |some ⟨_,_,.fields v,_⟩=>(match (v[11]?:Option Value) with
     |some (.ref P)=>some (c,P)
     |_=>none)
    |_=>none)
   |_=>none)
  |_=>none)
 |_=>none
end
def IT:Data→Option ClassData
 |.cls c=>some c
 |_=>none
noncomputable def Ly (K:Frag) (C:Addr) (b:List Value) (n:String) (o:Obj) (c:ClassData):Bool:=
 decide (o.cls=.type "type")&&(decide (c.mro=.ref C::c.mro.tail)&&(!c.hasDel&&(tailIn K b c.mro.tail&&(nsOkIn K c.ns&&(nsIn K c.ns "__init__"==some none&&(decide (o.slots.toList.length=6)&&decide (o.slots.toList[4]?=some (some (.builtin n)))))))))
def Od (K:Frag) (C:Addr) (b:List Value) (n:String):Bool:=match K.lookup C with
 |some o=>(match IT o.data with
  |some c=>Ly K C b n o c
  |none=>false)
 |none=>false
noncomputable abbrev Lz:List Value:=[.type "ValueError",.type "Exception",.type "BaseException",.type "object"]
open PySem.W
def wo:List Str:=["NoBoard","NoLine","NoSwitching","NoNumber","Unlike","NoNet","NoPlace","NoText","NoRow","TooMany","SwitchError"]
def B6 (n a:Str):Bool:=n==a||a=="SwitchError"
noncomputable def Oe (K:Frag) (C:Addr):Bool:=
 findIn K (.ref C) "__getattribute__"==some (some (.builtin "BaseException.__getattribute__"))&&findIn K (.ref C) "__getattr__"==some none&&(clsIn K C).isSome&&
 findIn K (.ref C) "__class__"==some (some (.builtin "object.__class__"))&&specialIn K (.builtin "object.__class__") "__get__"==some (some (.builtin "getset_descriptor.__get__"))&&
 takesIn K (.builtin "object.__class__")==some true&&mroIn K C (.type "object")==some true&&mroIn K C (.type "BaseException")==some true
def E5 (K:Frag) (n:Str):Option Addr:=match nsIn K mainGlobals n with
 |some (some (.ref C))=>some C
 |_=>none
noncomputable def Of (K:Frag) (n:Str) (C S:Addr):Bool:=
 Oe K C&&kitOne K (.ref C) (.type "ValueError")==some true&&(n=="TooMany"||Od K C Lz "ValueError.__new__")&&exmOne K (.ref C) (.ref S)==some true&&
  wo.all fun a=>match E5 K a with
   |some c=>kitOne K (.ref C) (.ref c)==some (B6 n a)
   |none=>false
def wU (K:Frag):Bool:=match E5 K "SwitchError" with
 |some S=>wo.all fun n=>match E5 K n with
  |some C=>Of K n C S
  |none=>false
 |none=>false
end LS
namespace Tp
open PySem PySem.W PySem.Spec PySem.Calls PyProof.Rows
section
variable {α β:Type}
def fN (n:Nat) (k:Nat→α):α:=@Nat.rec (fun _=>α) (k 0) (fun m _=>k (Nat.succ m)) n
def LA (n:Nat) (k:Nat→α):fN n k=k n:=by cases n<;>rfl
def fL (l:List β):(List β→α)→α:=@List.rec β (fun _=>(List β→α)→α) (fun k=>k []) (fun a _ i k=>i fun b=>k (a::b)) l
def Kd:∀(l:List β) (k:List β→α),fL l k=k l
 |[],_=>rfl
 |a::l,k=>Kd l fun b=>k (a::b)
def fE (l:List DictEntry):(List DictEntry→α)→α:=@List.rec DictEntry (fun _=>(List DictEntry→α)→α) (fun k=>k []) (fun a _ i k=>i fun b=>@DictEntry.rec (fun _=>α) (fun x y z=>k (⟨x,y,z⟩::b)) a) l
def R6:∀(l:List DictEntry) (k:List DictEntry→α),fE l k=k l
 |[],_=>rfl
 |⟨_,_,_⟩::l,k=>R6 l fun a=>k (_::a)
def fD (d:Data) (k:Data→α):α:=@Data.rec (fun _=>α) (k .plain) (fun v=>k (.prim v)) (fun x n=>@Array.rec Value (fun _=>α) (fun l=>fL l fun l=>fN n fun n=>k (.seq ⟨l⟩ n)) x)
 (fun x n=>@Array.rec DictEntry (fun _=>α) (fun l=>fE l fun l=>fN n fun n=>k (.dict ⟨l⟩ n)) x) (fun x n t=>k (.set x n t)) (fun b n=>k (.bytearray b n)) (fun v=>k (.cell v)) (fun f=>k (.func f)) (fun c=>k (.cls c))
 (fun x=>@Array.rec Value (fun _=>α) (fun l=>fL l fun l=>k (.fields ⟨l⟩)) x) (k .freed) d
def aH (d:Data) (k:Data→α):fD d k=k d:=by
 cases d with
 |seq x n=>cases x;simp only [fD,Kd,LA]
 |dict x n=>cases x;simp only [fD,R6,LA]
 |fields x=>cases x;simp only [fD,Kd]
 |_=>rfl
def fO (o:Obj) (k:Obj→α):α:=@Obj.rec (fun _=>α) (fun c d a s=>fD a fun a=>k ⟨c,d,a,s⟩) o
def R7 (o:Obj) (k:Obj→α):fO o k=k o:=by cases o;simp only [fO,aH]
def fT (t:BT):(BT→α)→α:=@BT.rec (fun _=>(BT→α)→α) (fun k=>k .nil) (fun v _ _ i a k=>fO v fun v=>i fun l=>a fun r=>k (.node v l r)) t
def Og:∀(t:BT) (k:BT→α),fT t k=k t
 |.nil,_=>rfl
 |.node v l r,k=>by
  show fO v (fun v=>fT l fun l=>fT r fun r=>k (.node v l r))=_
  rw [R7,Og l,Og r]
def fS (s:SharedT) (k:SharedT→α):α:=@SharedT.rec (fun _=>α) (fun t n l g d f os=>fT t fun t=>fN n fun n=>fN f fun f=>@Drawn.rec (fun _=>α) (fun a b c e=>@Array.rec GenState (fun _=>α) (fun g=>fL g fun g=>k ⟨t,n,l,⟨g⟩,⟨a,b,c,e⟩,f,os⟩) g) d) s
def Oh (s:SharedT) (k:SharedT→α):fS s k=k s:=by obtain ⟨t,n,l,⟨g⟩,⟨a,b,c,e⟩,d,os⟩:=s;simp only [fS,Og,LA,Kd]
def fP (p:Pos) (k:Pos→α):α:=@Pos.rec (fun _=>α) (fun a b c d=>fN a fun a=>fN b fun b=>fN c fun c=>fN d fun d=>k ⟨a,b,c,d⟩) p
def Oi (p:Pos) (k:Pos→α):fP p k=k p:=by cases p;simp only [fP,LA]
end
section
variable (stp:SharedT→Thread→Option (SharedT×Thread)) (ok:Thread→Bool) (seg:Nat→SharedT→Thread→Option (Flow×SharedT×Code×Pos))
def IU (e:Env) (c:Code) (f:Nat):List (List Stmt)→SharedT→Pos→List Code→Option (SharedT×Pos×List Code)
 |[],s,pos,a=>some (s,pos,a)
 |l::d,s,pos,a=>match seg f s (piecesOf l e c pos [topFrame ⟨0,0,0,0⟩]) with
  |some (.next,b,g,p)=>fS b fun b=>fP p fun p=>IU e c f d b p (g::a)
  |_=>none
def LB:Nat→SharedT→Thread→Option (SharedT×Thread)
 |0,s,t=>some (s,t)
 |n+1,s,t=>match through t with
  |true=>none
  |false=>match ok t with
   |false=>none
   |true=>match stp s t with
    |some (a,b)=>LB n a b
    |none=>none
noncomputable def LC:Nat→SharedT→Thread→Option SharedT
 |0,_,_=>none
 |n+1,s,t=>match through t with
  |true=>some s
  |false=>match ok t with
   |false=>none
   |true=>match stp s t with
    |some (a,b)=>LC n a b
    |none=>none
noncomputable def cut:Nat→List Stmt→List (List Stmt)
 |0,l=>[l]
 |n+1,l=>match l with
  |[]=>[]
  |a::b::c::d::l=>[a,b,c,d]::cut n l
  |l=>[l]
def R8:∀(n:Nat) (l:List Stmt),(cut n l).flatten=l
 |0,l=>by simp [cut]
 |_+1,[]=>rfl
 |n+1,a::b::c::d::l=>by simp [cut,R8 n l]
 |n+1,[a]=>rfl
 |n+1,[a,b]=>rfl
 |n+1,[a,b,c]=>rfl
def R9:∀(n:Nat) (l:List Stmt),(cut n l).length≤n+1
 |0,l=>AK _
 |_+1,[]=>EI _
 |n+1,a::b::c::d::l=>Nat.succ_le_succ (R9 n l)
 |n+1,[a]=>by simp [cut]
 |n+1,[a,b]=>by simp [cut]
 |n+1,[a,b,c]=>by simp [cut]
def Oj (p:Program):Env:={scope:=p.main.scope,locals:=mainNs,globals:=mainNs,cells:=[],code:=.ref 13,frame:=some 14}
def Hd (p:Program):Code:=.body (behindTheImports p) (Oj p)
def E6 (p:Program) (S:SharedT):Option (Thread×List Code×SharedT):=match LB stp ok 12 S (topStub p) with
 |some (b,t)=>match seg 1 b (blockOf (behindTheImports p) (Oj p) (Hd p) ⟨0,0,0,0⟩ [topFrame ⟨0,0,0,0⟩]) with
  |some (.next,s,c,a)=>fS s fun s=>fP a fun a=>match IU seg (Oj p) (Hd p) 2000 (cut 400 (behindTheImports p)) s a [c] with
   |some (d,e,f)=>match LC stp ok 2 d ⟨doneF .next,Hd p,e,[topFrame ⟨0,0,0,0⟩]⟩ with
    |some g=>some (t,f,g)
    |none=>none
   |none=>none
  |_=>none
 |none=>none
end
def Sa (P:Params) (os:OsState):SharedT:=⟨((boot_heap P).objs.toList.foldl (fun (x:BT×Nat) o=>(x.1.ins x.2 o,x.2+1)) (.nil,0)).1,11,(boot_heap P).life,⟨[]⟩,boot_drawn,boot_toks,os⟩
def aI (P:Params) (os:OsState):(Sa P os).abs=⟨boot_heap P,⟨[]⟩,boot_drawn,boot_toks,os⟩:=by kernel_rfl
section
variable {α:Type}
def Ol (l:List Obj):(List Obj→α)→α:=@List.rec Obj (fun _=>(List Obj→α)→α) (fun k=>k []) (fun a _ i k=>fO a fun a=>i fun b=>k (a::b)) l
def Sb:∀(l:List Obj) (k:List Obj→α),Ol l k=k l
 |[],_=>rfl
 |a::l,k=>by show fO a (fun a=>Ol l fun b=>k (a::b))=_;rw [R7,Sb]
def AQ (s:SharedT) (k:Shared→α):α:=Ol (s.tree.list s.n) fun l=>k ⟨⟨⟨l⟩,s.life⟩,s.gens,s.drawn,s.toks,s.os⟩
def aJ (s:SharedT) (k:Shared→α):AQ s k=k s.abs:=Sb _ _
end
section
variable {tb:String→Option Builtin} {p:Program} {w:World} {m0:Nat} {ann:Option Value}
def Sd:∀{n:Nat} {s a:SharedT} {t b:Thread},LB (stepT (denote tb) p w) (stepOk m0 ann) n s t=some (a,b)→topGo tb p w m0 ann n s.abs t=some (a.abs,b)
 |0,_,_,_,_,h=>by cases h;rfl
 |n+1,s,a,t,b,h=>by
  unfold LB at h;unfold topGo;cases d:through t with
  |true=>rw [d] at h;cases h
  |false=>
   rw [d] at h;cases hk:stepOk m0 ann t with
   |false=>rw [hk] at h;cases h
   |true=>
    rw [hk] at h;cases c:stepT (denote tb) p w s t with
    |none=>rw [c] at h;cases h
    |some r=>obtain ⟨e,f⟩:=r;rw [c] at h;rw [stepT_spec c];exact Sd h
def Se:∀{n:Nat} {s a:SharedT} {t:Thread},LC (stepT (denote tb) p w) (stepOk m0 ann) n s t=some a→topRun tb p w m0 ann n s.abs t=some a.abs
 |0,_,_,_,h=>by cases h
 |n+1,s,a,t,h=>by
  unfold LC at h;unfold topRun;cases c:through t with
  |true=>rw [c] at h;cases h;rfl
  |false=>
   rw [c] at h;cases hk:stepOk m0 ann t with
   |false=>rw [hk] at h;cases h
   |true=>
    rw [hk] at h;cases b:stepT (denote tb) p w s t with
    |none=>rw [b] at h;cases h
    |some r=>obtain ⟨d,e⟩:=r;rw [b] at h;rw [stepT_spec b];exact Se h
def Om {a:Nat→SharedT→Thread→Option (Flow×SharedT×Code×Pos)} {c:Code} {f:Nat}:∀{i:List (List Stmt)} {s j:SharedT} {pos k:Pos} {b d:List Code},IU a e c f i s pos b=some (j,k,d)→∀x∈b,x∈d
 |[],_,_,_,_,_,_,h,x,g=>by cases h;exact g
 |l::i,s,j,pos,k,b,d,h,x,g=>by
  unfold IU at h;split at h
  ·rw [Oh,Oi] at h;exact Om h x (.tail _ g)
  ·cases h
def Sf {b:Env} {c:Code} {f:Nat}:∀{a:List (List Stmt)} {s d:SharedT} {pos g:Pos} {j i:List Code},IU (segRunT tb p w m0 ann 1) b c f a s pos j=some (d,g,i)→(∀x∈i,x=c)→∀{N:Nat} {r:Shared},
 topRun tb p w m0 ann N d.abs ⟨doneF .next,c,g,[topFrame ⟨0,0,0,0⟩]⟩=some r→topRun tb p w m0 ann (a.length*f+N) s.abs (restOf a.flatten b c pos [topFrame ⟨0,0,0,0⟩])=some r
 |[],s,d,pos,g,j,i,h,m,N,r,k=>by cases h;rw [Ka,Nat.zero_mul,Nat.zero_add];exact piece_nil k
 |l::a,s,d,pos,g,j,i,h,m,N,r,k=>by
  unfold IU at h;split at h
  ·rename_i t n o e;rw [Oh,Oi] at h;have q:=segRun_of e;rw [m n (Om h n (.head _))] at q;have:=piece_app (rest:=a.flatten) q (Sf h m k);rw [Dc,Ha,Nat.add_comm (a.length*f) f,Nat.add_assoc];exact this
  ·cases h
end
noncomputable def aK {a:Type} (O:Program→List Str→List Str→(Shared→Bool)→Bool→Shared→_) (I:List Stmt→List Str) (p q:Program) (l:List Str) (Y:Shared→a) (H:Heap) (s:Shared):=
 ((staticsOk (I p.main.body) H s.heap&&namesBound p s.heap&&gensDone s&&laidKept H s.heap),(O q l (I p.main.body) (fun _=>true) true s:type_of% (openSeen q l [] (fun _=>true) true s)),Y s)
def left_of {p q:Program} {l:List Str} {i:Type} {Y:Shared→i} {y:World→i} {n:Nat} (e:opening p=plainProg p.main.scope.names) (A:∀s,fenceModules? p s=some s)
 (c:∀w:World,((boot_heap w.params).isNs mainGlobals&&(Array.mk ([]:List GenState)).size==0,(boot_heap w.params).objs.size,(boot_heap w.params).nsMap mainGlobals "__annotations__")=(true,11,some (.ref 6)))
 (h:∀(w:World) (os:OsState),(E6 (stepT (denote treeTable) p w) (stepOk 11 (some (.ref 6))) (segRunT treeTable p w 11 (some (.ref 6)) 1) p (Sa w.params os)).map (fun r=>(r.1,r.2.1,AQ r.2.2 (aK openSeen importedModules p q l Y (boot_heap w.params))))=
  some (⟨denote treeTable (Hd p),Hd p,⟨0,0,0,0⟩,[topFrame ⟨0,0,0,0⟩]⟩,List.replicate n (Hd p),(true,openGood q l,y w))):
 LeftO p q l (fun _=>true) Y y 1000000:=fun w=>by
 obtain ⟨⟨B,C,d,k,os⟩,E,F⟩:=qb6.mp (boot_open (N:=1000000) e rfl A w);obtain ⟨rfl,rfl,rfl,rfl⟩:B=boot_heap w.params∧C=Array.mk []∧d=boot_drawn∧k=boot_toks:=by simpa using F
 obtain ⟨G,H,I⟩:_∧_∧_:=by simpa only [Prod.mk.injEq] using c w
 obtain ⟨⟨ta,J,b⟩,a,g⟩:=qb6.mp (h w os);dsimp only at g;rw [aJ] at g;obtain ⟨L,M⟩:=Prod.mk.inj g;obtain ⟨O,P⟩:=Prod.mk.inj M;obtain ⟨Q,R⟩:=Prod.mk.inj P;obtain ⟨S,T⟩:=Prod.mk.inj R;have f:∀x∈J,x=Hd p:=fun x j=>by rw [O] at j;exact List.eq_of_mem_replicate j
 have run:topRun treeTable p w 11 (some (.ref 6)) 1000000 ⟨boot_heap w.params,Array.mk [],boot_drawn,boot_toks,os⟩ (topStub p)=some b.abs:=by
  rw [←aI];unfold E6 at a;split at a
  ·rename_i sa U W;split at a
   ·rename_i sb m pb X;rw [Oh,Oi] at a;split at a
    ·rename_i sf pf Z o;split at a
     ·rename_i sg' eg;cases a;have u:=segRun_of X;rw [f m (Om o m (.head _))] at u;have v:=Sf o f (Se eg);rw [R8] at v;have c2:=piece_block u v;have z:=Sd W;rw [L] at z;have c4:=go_top z c2;have hl:=R9 400 (behindTheImports p);have:=topRun_mono (1000000 - (12+(1+((cut 400 (behindTheImports p)).length*2000+2)))) _ _ _ _ c4
      rwa [show 12+(1+((cut 400 (behindTheImports p)).length*2000+2))+(1000000 - (12+(1+((cut 400 (behindTheImports p)).length*2000+2))))=1000000 by omega] at this
     ·cases a
    ·cases a
   ·cases a
  ·cases a
 have t:topFrom treeTable p w 1000000 ⟨boot_heap w.params,Array.mk [],boot_drawn,boot_toks,os⟩=some b.abs:=by
  unfold topFrom;dsimp only;rw [G,H,I,run]
  show (match staticsOk (importedModules p.main.body) (boot_heap w.params) b.abs.heap&&namesBound p b.abs.heap&&gensDone b.abs&&laidKept (boot_heap w.params) b.abs.heap with |true=>_ |false=>_)=_
  rw [Q]
 unfold openEnds;rw [E]
 show (topFrom treeTable p w 1000000 _).map _=_
 rw [t];exact congrArg some (Prod.ext S T)
noncomputable def He:List Obj→Nat→Frag
 |[],_=>[]
 |o::l,a=>match o.isFreed with
  |true=>He l (a+1)
  |false=>match o.cls,a==mainNs||a==cStatics with
   |.none,false=>He l (a+1)
   |_,_=>(a,o)::He l (a+1)
def Sg (h:Heap):Frag:=He h.objs.toList 0
def blank (f:FuncData):FuncData:={f with kwdefaults:=.none,doc:=.none,pyModule:=.none,annotations:=none,code:=.none,closureTuple:=.none}
noncomputable def On (K:Frag) (n:Str):Option (FuncData×Bool×Bool):=match nsIn K mainGlobals n with
 |some (some (.ref f))=>(match K.lookup f with
  |some ⟨_,_,.func a,_⟩=>some (blank a,codeIn K a.code n,keepIn K (.ref f))
  |_=>none)
 |_=>none
abbrev Oo (n:Str) (st:Stmt):FuncData:=fnOf n n (L2.wq st) (L2.wh st) (L2.wb st) .none .none .none .none none .none .none
def Oq (K:Frag) (x:Str):Option Int:=match nsIn K mainGlobals x with
 |some (some (.int v _))=>some v
 |_=>none
structure wR where
 fs:List (Str×Stmt)
 cs:List (Str×Int)
 bs:List Str
def Ot (K:Frag) (n v:Str):Bool:=match nsIn K mainGlobals n with
 |some (some (.str z _))=>z.cps.toList==v.cps.toList
 |_=>false
def LD (K:Frag):List (Str×Str)→Bool
 |[]=>true
 |p::r=>Ot K p.1 p.2&&LD K r
end Tp
namespace LS
open PySem PySem.Spec PyProof.Rows L2 PySem.W PySem.Calls
def LF:List Int→List Value→Bool
 |[],[]=>true
 |i::r,.int j _::u=>decide (i=j)&&LF r u
 |_,_=>false
noncomputable def LG (K:Frag) (f:List Value→Bool):Value→Bool
 |.ref a=>(match K.lookup a with
  |some ⟨.type n,none,.seq i _,_⟩=>decide (n="tuple")&&decide (i.size≤8)&&f i.toList
  |_=>false)
 |_=>false
def LH (K:Frag):List (List Int)→List Value→Bool
 |[],[]=>true
 |r::a,u::b=>LG K (LF r) u&&LH K a b
 |_,_=>false
def brdIn (K:Frag) (n:Str) (r:List (List Int)):Bool:=match nsIn K mainGlobals n with
 |some (some v)=>LG K (LH K r) v
 |_=>false
end LS
namespace Tp
open PySem PySem.W PySem.Spec PySem.Calls PyProof.Rows
abbrev Ou (n m:Str) (st:Stmt):FuncData:=fnOf m (n++(".":Str)++m) (L2.wq st) (L2.wh st) (L2.wb st) .none .none .none .none none .none .none
noncomputable def Ov (K:Frag) (n m:Str):Option (FuncData×Bool×Bool×Bool):=match nsIn K mainGlobals n with
 |some (some (.ref C))=>(match findIn K (.ref C) m with
  |some (some (.ref f))=>(match K.lookup f with
   |some ⟨_,_,.func a,_⟩=>some (blank a,codeIn K a.code (n++(".":Str)++m),isFn K (.ref f),keepIn K (.ref f))
   |_=>none)
  |_=>none)
 |_=>none
def Sh (K:Frag) (C:Addr) (f:Str):Bool:=match findIn K (.ref C) f with
 |some none=>true
 |_=>false
noncomputable def Ow (K:Frag) (n:Str) (fs:List Str):Bool:=match nsIn K mainGlobals n with
 |some (some (.ref C))=>plainGet K C Str.empty&&hasDictIn K C&&plainOver K C&&(match findIn K (.ref C) "__setattr__" with
  |some (some (.builtin id))=>id=="object.__setattr__"
  |_=>false)&&makesIn K C&&keepIn K (.ref C)&&fs.all (Sh K C)
 |_=>false
noncomputable def Ox (K:Frag) (h:Heap) (g:Str):Option (Option Obj×Bool×Bool):=match LS.tabP K g with
 |some (c,T)=>some (h.get? T,codeHdIn K c T,(K.lookup T).isNone)
 |none=>none
def Gi (K:Frag) (g:Str):Addr×Addr:=(LS.tabP K g).getD (0,0)
def Oy:List Addr→Bool
 |[]=>true
 |a::l=>!(l.contains a)&&Oy l
structure wV where
 w:wR
 ms:List (Str×Str×Stmt)
 cl:List (Str×List Str)
 gs:List Str
 ss:List (Str×Str)
 ts:List (Str×List (List Int)):=[]
abbrev Si:=(List (Option (FuncData×Bool×Bool))×List (Option Int)×List (Option (Option Value))×Bool)×List (Option (FuncData×Bool×Bool×Bool))×List Bool×List (Option (Option Obj×Bool×Bool))×Bool×Bool
def obsZ (W:wV) (s:Shared):Si:=fL (Sg s.heap) fun K=>((W.w.fs.map fun x=>On K x.1,W.w.cs.map fun x=>Oq K x.1,W.w.bs.map (nsIn K mainGlobals),LS.wU K),W.ms.map fun x=>Ov K x.1 x.2.1,W.cl.map fun x=>Ow K x.1 x.2,W.gs.map fun g=>Ox K s.heap g,Oy (W.gs.map fun g=>(Gi K g).2),LD K W.ss&&W.ts.all fun x=>LS.brdIn K x.1 x.2)
noncomputable def valZ (W:wV):Si:=((W.w.fs.map fun x=>some (Oo x.1 x.2,true,true),W.w.cs.map fun x=>some x.2,W.w.bs.map fun _=>some none,true),W.ms.map fun x=>some (Ou x.1 x.2.1 x.2.2,true,true,true),W.cl.map fun _=>true,W.gs.map fun _=>some (some (tabObj #[]),true,true),true,true)
end Tp
namespace LS
open PySem PySem.Spec PyProof.Rows L2 PySem.W PySem.Calls
def EK:Stmt→Nat→Stmt
 |.ClassDef _ _ _ b _ _ _ _ _ _ _,j=>b.getD j (.Pass ⟨0,0,0,0⟩)
 |_,_=>.Pass ⟨0,0,0,0⟩
end LS
set_option maxHeartbeats 0
namespace LK
open PySem PySem.Spec PyProof.Rows L2 LS
def Ay (i:Nat):Stmt:=PySem.Challenge.pw_lineswitch_k98_desks_answer.main.body.getD i (.Pass ⟨0,0,0,0⟩)
section
abbrev Sj:=Ay 15
abbrev Sk:=Ay 18
abbrev Sl:=Ay 31
abbrev Sn:=Ay 39
abbrev So:=Ay 40
abbrev Sq:=Ay 43
abbrev Sr:=Ay 45
abbrev Ss:=Ay 46
abbrev Su:=Ay 51
abbrev Sv:=Ay 55
abbrev Sy:=Ay 60
abbrev Sz:=Ay 64
abbrev SA:=EK (Ay 65) 1
abbrev SB:=EK (Ay 65) 5
abbrev SD:=EK (Ay 65) 6
abbrev SE:=Ay 70
abbrev SF:=Ay 71
abbrev SG:=Ay 77
abbrev SH:=Ay 81
abbrev SI:=Ay 82
abbrev SJ:=Ay 84
abbrev SK:=Ay 85
abbrev SL:=Ay 90
abbrev SM:=Ay 91
abbrev SO:=Ay 93
abbrev SQ:=Ay 95
abbrev SU:=Ay 96
abbrev SV:=Ay 16
abbrev SW:=Ay 28
abbrev SX:=Ay 52
abbrev SY:=Ay 78
abbrev S0:=Ay 83
abbrev S3:=Ay 87
abbrev S4:=Ay 89
abbrev S6:=Ay 92
abbrev Ta:=Ay 17
abbrev Tb:=Ay 22
abbrev Tc:=Ay 24
abbrev Td:=Ay 56
abbrev Te:=Ay 88
abbrev Tf:=Ay 19
abbrev Tg:=Ay 23
abbrev Th:=Ay 57
abbrev Ti:=EK (Ay 65) 2
abbrev Tj:=Ay 99
abbrev Tn:=Ay 20
abbrev To:=Ay 58
abbrev Tq:=Ay 21
abbrev Tr:=Ay 59
abbrev Ts:=Ay 72
abbrev Tt:=Ay 26
abbrev Tu:=Ay 29
abbrev Tv:=Ay 33
abbrev Tw:=Ay 35
abbrev Tx:=Ay 41
abbrev Tz:=Ay 61
abbrev TB:=EK (Ay 65) 0
abbrev TC:=Ay 69
abbrev TH:=Ay 25
abbrev TJ:=Ay 27
abbrev TK:=Ay 30
abbrev TL:=Ay 32
abbrev TM:=Ay 44
abbrev TN:=Ay 49
abbrev TQ:=EK (Ay 79) 0
abbrev TR:=Ay 37
abbrev TU:=Ay 38
abbrev TV:=Ay 47
abbrev TX:=Ay 50
abbrev TY:=Ay 53
abbrev TZ:=EK (Ay 65) 3
abbrev T1:=EK (Ay 65) 4
abbrev T3:=Ay 36
abbrev T4:=Ay 62
abbrev T6:=Ay 76
abbrev T7:=EK (Ay 79) 3
abbrev T8:=Ay 97
abbrev T9:=Ay 75
abbrev Ua:=Ay 98
abbrev Ub:=EK (Ay 79) 2
abbrev Uc:=Ay 100
abbrev Ud:=EK (Ay 79) 1
abbrev Ue:=Ay 94
abbrev s_law:=Ay 101
end
end LK
set_option maxHeartbeats 0
namespace LK
open PySem PySem.Spec PyProof.Rows L2 LS
noncomputable def aL:Tp.wR:=⟨[(("is_whole":Str),Sj),(("is_line_tuple":Str),Sk),(("row_switched":Str),Sl),(("all_fours":Str),Sn),(("is_odd_four":Str),So),(("counts_with_row":Str),Sq),(("fewest_lit":Str),Sr),(("fuller_columns":Str),Ss),(("ways_with_column":Str),Su),(("fraction":Str),Sv),(("with_lights":Str),Sy),(("light_turned":Str),Sz),(("signs_read":Str),SE),(("need_text":Str),SF),(("need_row":Str),SG),(("_law_cell":Str),SH),(("_law_mix":Str),SI),(("_law_take":Str),SJ),(("_law_kind":Str),SK),(("_law_switched":Str),SL),(("_law_ones":Str),SM),(("_law_text":Str),SO),(("_law_fours":Str),SQ),(("_law_form":Str),SU),(("is_between":Str),SV),(("is_lot":Str),SW),(("ways_of_counts":Str),SX),(("figures_read":Str),SY),(("_law_box":Str),S0),(("_law_wide_box":Str),S3),(("_law_lot":Str),S4),(("_law_least":Str),S6),(("is_light":Str),Ta),(("need_number":Str),Tb),(("need_line":Str),Tc),(("sum_of_column":Str),Td),(("_law_board":Str),Te),(("is_row":Str),Tf),(("need_size":Str),Tg),(("sum_of_columns":Str),Th),(("_law_alike":Str),Tj),(("is_board":Str),Tn),(("mean_left":Str),To),(("need_board":Str),Tq),(("bound_of":Str),Tr),(("board_read":Str),Ts),(("row_counts":Str),Tt),(("is_switching":Str),Tu),(("turned":Str),Tv),(("same_size":Str),Tw),(("odd_fours":Str),Tx),(("road_of":Str),Tz),(("board_text":Str),TC),(("lit_many":Str),TH),(("column_counts":Str),TJ),(("need_switching":Str),TK),(("switched":Str),TL),(("lots_with_counts":Str),TM),(("counts_by":Str),TN),(("switching_to":Str),TR),(("form_of":Str),TU),(("left_many":Str),TV),(("best_columns":Str),TX),(("left_counts":Str),TY),(("are_alike":Str),T3),(("road_switching":Str),T4),(("answer_to":Str),T6),(("_law_told":Str),T8),(("board_made":Str),T9),(("_law_made":Str),Ua),(("_law_step":Str),Uc),(("_law_answer":Str),Ue),(("law":Str),s_law)],[(("MOST_LINES":Str),(8:Int))],["ValueError","all","bool","divmod","enumerate","int","isinstance","len","list","max","min","range","str","sum","tuple","zip"]⟩
noncomputable def LI:Tp.wV:=⟨aL,[("Keeper","change_to",SA),("Keeper","undo",SB),("Keeper","board",SD),("Keeper","light",Ti),("Keeper","__init__",TB),("Desk","__init__",TQ),("Keeper","row",TZ),("Keeper","column",T1),("Desk","do_at",T7),("Desk","say_word",Ub),("Desk","say",Ud)],[("Desk",["kept"]),("Keeper",["now","earlier"])],[],[("FIGURES","0123456789"),("LIGHT_SIGNS",".#")],[("FIRST_BOARD",[[0]])]⟩
open PySem.W
abbrev top_q:Program:=view PySem.Challenge.pw_lineswitch_k98_desks_answer [101]
noncomputable abbrev top_loose:List Str:=(PySem.Challenge.pw_lineswitch_k98_desks_answer.main.scope.names.map (·.1)).filter fun x=>!(x=="law")
set_option maxHeartbeats 0 in
theorem said_ok:PySem.Challenge.rw_lineswitch_k98_desks_answer.wellSaid=true:=by kernel_rfl
set_option maxHeartbeats 0 in
theorem top_left:LeftO PySem.Challenge.pw_lineswitch_k98_desks_answer top_q top_loose (fun _=>true) (Tp.obsZ LI) (fun _=>Tp.valZ LI) 1000000:=
 Tp.left_of (n:=27) (by kernel_rfl) (fun s=>by kernel_rfl) (fun w=>by kernel_rfl) (fun w os=>by
  rw [PySem.W.Fast.te10156331382660048174,PySem.W.Fast.te11892475500146522536,PySem.W.Fast.te14364793385576792824,PySem.W.Fast.te10110043849684766642,PySem.W.Fast.te6613529449190102663,PySem.W.Fast.te4187177175401517315,PySem.W.Fast.te5923862056798008813]
  kernel_rfl)
end LK
namespace L2
open PySem PySem.Spec PyProof.Rows
abbrev aM:=Sum Int Str
inductive V where
 |non |bl (b:Bool) |int (i:Int) |str (x:Str) |byt (b:Array UInt8) |flt (b:UInt64) |ref (a:Addr) |ty (n:String)
 deriving DecidableEq
def RelV:V→Value→Prop
 |.non,u=>u=Value.none
 |.bl b,u=>u=Value.bool b
 |.int i,u=>∃t,u=Value.int i t
 |.str x,u=>∃t,u=Value.str x t
 |.byt b,u=>∃t,u=Value.bytes b t
 |.flt b,u=>∃t,u=Value.float b t
 |.ref a,u=>u=Value.ref a
 |.ty n,u=>u=Value.type n
abbrev Vals:List V→List Value→Prop:=Paired RelV
def Vals.length {xs:List V} {u:List Value} (r:Vals xs u):xs.length=u.length:=Paired.length r
def Vals.get:∀{a:List V} {b:List Value} {i:Nat} {x:V},Vals a b→a[i]?=some x→∃u,b[i]?=some u∧RelV x u
 |_,_,_,_,.nil,e=>by simp at e
 |_,_,0,_,.cons r _,e=>by simp at e;subst e;exact ⟨_,rfl,r⟩
 |_,_,i+1,x,.cons _ t,e=>by obtain ⟨u,h,c⟩:=Vals.get (i:=i) (x:=x) t (by simpa using e);exact ⟨u,by simpa using h,c⟩
def Vals.set (r:RelV x u):∀{a:List V} {b:List Value} (i:Nat),Vals a b→Vals (a.set i x) (b.set i u)
 |_,_,_,.nil=>.nil
 |_,_,0,.cons _ t=>.cons r t
 |_,_,i+1,.cons q t=>.cons q (Vals.set r i t)
def Vals.append:∀{x y:List V} {u w:List Value},Vals x u→Vals y w→Vals (x++y) (u++w)
 |_,_,_,_,.nil,s=>s
 |_,_,_,_,.cons r t,s=>.cons r (Vals.append t s)
def Vals.take:∀{x:List V} {u:List Value} (n:Nat),Vals x u→Vals (x.take n) (u.take n)
 |_,_,0,_=>.nil
 |_,_,_+1,.nil=>.nil
 |_,_,n+1,.cons r t=>.cons r (Vals.take n t)
def Vals.drop:∀{x:List V} {u:List Value} (n:Nat),Vals x u→Vals (x.drop n) (u.drop n)
 |_,_,0,r=>r
 |_,_,_+1,.nil=>.nil
 |_,_,n+1,.cons _ t=>Vals.drop n t
def Vals.none_of:∀{x:List V} {u:List Value} {i:Nat},Vals x u→x[i]?=none→u[i]?=none:=fun {x u i} r e=>by have h:=r.length;have a:x.length≤i:=List.getElem?_eq_none_iff.mp e;exact List.getElem?_eq_none_iff.mpr (by omega)
def wX:Option V→Option Value→Prop
 |some v,some u=>RelV v u
 |none,none=>True
 |_,_=>False
def kV:aM→V
 |.inl i=>.int i
 |.inr x=>.str x
inductive HO where
 |lst (xs:List V)
 |tup (xs:List V)
 |ins (C dx:Addr) (fs:List (Str×V))
 |own (x:Addr)
 |xd (fs:List (Str×V))
 |frz (o:Obj) (u:HO)
 |tbl (ps:Array Value)
 |ext (φ:Heap→Prop)
 |mex (φ:Heap→Prop)
 |dct (φ:Heap→Prop)
abbrev Hp:=Addr→Option HO
def Av (H:Hp) (a:Addr) (o:HO):Hp:=fun b=>if b=a then some o else H b
def CA {o:HO}:Av H a o a=some o:=by unfold Av;rw [if_pos rfl]
def AJ {H:Hp} {o:HO} (h:b≠a):Av H a o b=H b:=by unfold Av;rw [if_neg h]
def wj {H:Hp} {o u:HO} (h:H a=some o) (c:H b=some u) (d:o≠u):a≠b:=by intro e;subst e;rw [h] at c;exact d (Option.some.inj c)
def BY {H:Hp} {o:HO} (h:H a=some o) (c:H b=none):a≠b:=by intro e;subst e;rw [h] at c;cases c
section
variable (P:Program) (w:World)
inductive Ug (h:Heap) (a:Addr) (xs:List V):Prop where
 |mk (f1:xs.length≤sizeLine) (its:List Value) (n:Nat) (f2:Vals xs its) (f3:h.get? a=some {cls:=.type "list",data:=.seq its.toArray n}):Ug h a xs
def wH (h:Heap) (a:Addr):Prop:=∀o,h.get? a=some o→o.dict=none
inductive Oz (h:Heap) (a:Addr) (xs:List V):Prop where
 |mk (f1:xs.length≤sizeLine) (its:List Value) (f2:Vals xs its) (f3:IsTup h a its.toArray) (f4:wH h a):Oz h a xs
def wH.new {h:Heap} {o:Obj} (a:o.dict=none:=by rfl) (b:o.isFreed=false:=by rfl):wH (h.push o) h.objs.size:=fun u e=>by rw [Bx _ b] at e;cases e;exact a
inductive Uh (H:Hp) (h:Heap) (a C dx:Addr) (fs:List (Str×V)):Prop where
 |mk (f1:H dx=some (.own a)) (f2:fs.length≤1000) (f3:dx≠a) (f4:h.get? a=some (instObj C dx)) (mA:Str→Option Value) (f5:h.Ns1 dx mA) (f6:(∀f,wX (fs.lookup f) (mA f))∧PySem.Within mA (fs.map (·.1))):Uh H h a C dx fs
def wu (P:Program) (w:World) (H:Hp) (h:Heap) (a:Addr):HO→Prop
 |.lst x=>Ug h a x
 |.tup x=>Oz h a x
 |.ins C e fs=>Uh H h a C e fs
 |.own _=>∃o,h.get? a=some o
 |.xd fs=>∃m,h.Ns1 a m∧∀f,wX (fs.lookup f) (m f)
 |.frz o u=>h.get? a=some o∧wu P w H h a u
 |.tbl p=>h.get? a=some {cls:=.none,data:=.fields p}
 |.ext b=>b h∧(∃o,h.get? a=some o)∧∀c d:Heap,b c→(∀o,c.get? a=some o→d.get? a=some o)→b d
 |.mex b=>b h∧(∃o,h.get? a=some o)∧∀c d:Heap,b c→(∀o,c.get? a=some o→d.get? a=some o)→b d
 |.dct b=>b h∧(∃o,h.get? a=some o)∧∀c d:Heap,b c→(∀o,c.get? a=some o→d.get? a=some o)→b d
def HOk (H:Hp) (h:Heap):Prop:=∀a o,H a=some o→wu P w H h a o
end
section
variable {P:Program} {w:World} {H H':Hp} {h h':Heap} {a:Addr} {o:HO}
def wu.lt (x:wu P w H h a o):a<h.objs.size:=by
 cases o with
 |lst xs=>obtain ⟨_,_,_,_,e⟩:=x;exact AY e
 |tup xs=>obtain ⟨_,_,_,p,_⟩:=x;exact p.lt
 |ins C d fs=>obtain ⟨_,_,_,e,_⟩:=x;exact AY e
 |own y=>obtain ⟨_,e⟩:=x;exact AY e
 |xd fs=>obtain ⟨_,⟨_,_,_,e,_⟩,_⟩:=x;exact AY e
 |frz c u=>obtain ⟨e,_⟩:=x;exact AY e
 |tbl f=>exact AY (show h.get? a=some _ from x)
 |ext b=>obtain ⟨_,⟨_,e⟩,_⟩:=x;exact AY e
 |mex b=>obtain ⟨_,⟨_,e⟩,_⟩:=x;exact AY e
 |dct b=>obtain ⟨_,⟨_,e⟩,_⟩:=x;exact AY e
def wu.stay (x:wu P w H h a o) (k:∀b u,(b=a∨H b=some (.own a))→h.get? b=some u→h'.get? b=some u)
 (B:∀b,H b=some (.own a)→H' b=some (.own a)) (G:∀b f,H b=some (.tup f)→H' b=some (.tup f)):wu P w H' h' a o:=by
 induction o with
 |lst f=>obtain ⟨z,i,n,r,e⟩:=x;exact ⟨z,i,n,r,k _ _ (.inl rfl) e⟩
 |tup f=>obtain ⟨z,i,r,⟨g,e,c⟩,E⟩:=x;exact ⟨z,i,r,⟨g,k _ _ (.inl rfl) e,c⟩,fun o j=>by rw [k _ _ (.inl rfl) e] at j;cases j;exact E _ e⟩
 |ins C I fs=>obtain ⟨d,z,ne,e,m,⟨l,s,t,j,c⟩,r⟩:=x;exact ⟨B _ d,z,ne,k _ _ (.inl rfl) e,m,⟨l,s,t,k _ _ (.inr d) j,c⟩,r⟩
 |own y=>obtain ⟨g,e⟩:=x;exact ⟨g,k _ _ (.inl rfl) e⟩
 |xd fs=>obtain ⟨m,⟨l,s,t,e,c⟩,r⟩:=x;exact ⟨m,⟨l,s,t,k _ _ (.inl rfl) e,c⟩,r⟩
 |frz g u F=>obtain ⟨e,q⟩:=x;exact ⟨k _ _ (.inl rfl) e,F q⟩
 |tbl v=>
  have e:h.get? a=some {cls:=.none,data:=.fields v}:=x
  show h'.get? a=some {cls:=.none,data:=.fields v}
  exact k a _ (.inl rfl) e
 |ext A=>obtain ⟨p,⟨o,e⟩,st⟩:=x;exact ⟨st _ _ p fun o q=>k _ _ (.inl rfl) q,⟨o,k _ _ (.inl rfl) e⟩,st⟩
 |mex A=>obtain ⟨p,⟨o,e⟩,st⟩:=x;exact ⟨st _ _ p fun o q=>k _ _ (.inl rfl) q,⟨o,k _ _ (.inl rfl) e⟩,st⟩
 |dct A=>obtain ⟨p,⟨o,e⟩,st⟩:=x;exact ⟨st _ _ p fun o q=>k _ _ (.inl rfl) q,⟨o,k _ _ (.inl rfl) e⟩,st⟩
def HOk.lt (x:HOk P w H h) (e:H a=some o):a<h.objs.size:=(x a o e).lt
def HOk.fresh (x:HOk P w H h) (e:h.objs.size≤a):H a=none:=by
 cases q:H a with
 |none=>rfl
 |some u=>exact absurd (Bn (x.lt q) e) (Ea _)
def HOk.kept (x:HOk P w H h) (k:∀b u,h.get? b=some u→h'.get? b=some u):HOk P w H h':=fun a o e=>(x a o e).stay (fun b u _ q=>k b u q) (fun _ q=>q) fun _ _ q=>q
def HOk.laid (x:HOk P w H h) (k:∀b u,h.get? b=some u→h'.get? b=some u) (g:h.objs.size≤a) (new:wu P w (Av H a o) h' a o):HOk P w (Av H a o) h':=fun b u e=>by
 have d:=x.fresh g
 by_cases f:b=a
 ·subst f;rw [CA] at e;cases e;exact new
 ·rw [AJ f] at e;exact (x b u e).stay (fun c v _ q=>k c v q) (fun c q=>by rw [AJ (BY q d)];exact q) fun c i q=>by rw [AJ (BY q d)];exact q
end
def Rd (H:Hp) (a:Addr) (u:HO):Prop:=H a=some u∨∃o,H a=some (.frz o u)
def Rd.ok {u:HO} (r:Rd H a u) (x:HOk P w H h):wu P w H h a u:=by
 rcases r with r |⟨o,r⟩
 ·exact x a u r
 ·obtain ⟨_,q⟩:=x a _ r;exact q
def LJ:Option HO→Prop
 |some (.lst _)=>True
 |some (.ins _ _ _)=>True
 |some (.ext _)=>True
 |some (.mex _)=>True
 |some (.dct _)=>True
 |_=>False
section
variable {P:Program} {w:World} {H:Hp} {h h':Heap} {x e:Addr} {o':HO}
def HOk.write (ok:HOk P w H h) (m:LJ (H x)) (l:e=x∨H e=some (.own x)) (k:∀b u,b≠e→h.get? b=some u→h'.get? b=some u) (j:∃u,h'.get? e=some u)
 (new:wu P w (Av H x o') h' x o'):HOk P w (Av H x o') h':=fun b u q=>by
 have n:∀c y,H c=some (.own y)→c≠x:=fun c y r z=>by subst z;rw [r] at m;exact m
 have d:∀c f,H c=some (.tup f)→c≠x:=fun c f r z=>by subst z;rw [r] at m;exact m
 by_cases g:b=x
 ·subst g;rw [CA] at q;cases q;exact new
 ·rw [AJ g] at q
  by_cases a:b=e
  ·have o:H b=some (.own x):=by
    rcases l with z |z
    ·exact absurd (a.trans z) g
    ·rw [a];exact z
   rw [q] at o;cases o;obtain ⟨v,p⟩:=j;exact ⟨v,by rw [a];exact p⟩
  ·refine (ok b u q).stay (fun c v i r=>k c v ?_ r) (fun c r=>by rw [AJ (n c b r)];exact r) fun c f r=>by rw [AJ (d c f r)];exact r
   rcases i with rfl |i
   ·exact a
   ·rintro rfl;rcases l with z |z
    ·exact n c b i z
    ·rw [i] at z;cases z;exact g rfl
end
structure Un (fs ex:List Addr) (H H':Hp) (h h':Heap):Prop where
 keep:∀b o,h.get? b=some o→H b=none→b∉fs→b∉ex→h'.get? b=some o
 slot:∀b o,h.get? b=some o→H b=none→b∈fs→b∉ex→∃sl,h'.get? b=some {o with slots:=sl}
 free:∀b o,h.get? b=some o→H b=none→b∉ex→H' b=none
 there:∀b o,h.get? b=some o→b∉ex→∃o',h'.get? b=some o'
 tups:∀b xs,H b=some (.tup xs)→H' b=some (.tup xs)
 frzs:∀b o u,H b=some (.frz o u)→H' b=some (.frz o u)
 tbls:∀b ps,H b=some (.tbl ps)→∃more,H' b=some (.tbl (ps++more))
section
variable {fs fs' ex ex':List Addr} {H H1 H2:Hp} {h h1 h2 h':Heap} {a x e:Addr} {o:HO}
def Un.any (u:Un fs ex H H1 h h1) {b:Addr} {c:Obj} (q:h.get? b=some c) (n:H b=none) (d:b∉ex):∃s,h1.get? b=some {c with slots:=s}:=by
 by_cases f:b∈fs
 ·exact u.slot b c q n f d
 ·exact ⟨c.slots,u.keep b c q n f d⟩
def Un.kept (k:∀b u,h.get? b=some u→h'.get? b=some u):Un fs ex H H h h':=
 ⟨fun b c q _ _ _=>k b c q,fun b c q _ _ _=>⟨c.slots,k b c q⟩,fun _ _ _ n _=>n,fun b c q _=>⟨c,k b c q⟩,fun _ _ q=>q,fun _ _ _ q=>q,fun _ p q=>⟨#[],by rw [q];simp⟩⟩
def Un.refl:Un fs ex H H h h:=Un.kept fun _ _ q=>q
def Un.laid (k:∀b u,h.get? b=some u→h'.get? b=some u) (d:h.objs.size≤a) (c:H a=none):Un fs ex H (Av H a o) h h' where
 keep:=fun b u q _ _ _=>k b u q
 slot:=fun b u q _ _ _=>⟨u.slots,k b u q⟩
 free:=fun b u q n _=>by rw [AJ (BX (Bn (AY q) d))];exact n
 there:=fun b u q _=>⟨u,k b u q⟩
 tups:=fun b f q=>by rw [AJ (BY q c)];exact q
 frzs:=fun b u f q=>by rw [AJ (BY q c)];exact q
 tbls:=fun b p q=>⟨#[],by rw [AJ (BY q c),q];simp⟩
def Un.write (m:LJ (H x)) (j:e=x∨H e=some (.own x)) (k:∀b u,b≠e→h.get? b=some u→h'.get? b=some u) (d:∃u,h'.get? e=some u):Un fs ex H (Av H x o) h h':=by
 have g:∀b,H b=none→b≠x:=fun b n z=>by subst z;rw [n] at m;exact m
 have i:∀b,H b=none→b≠e:=fun b n z=>by
  subst z;rcases j with r |r
  ·exact g b n r
  ·rw [n] at r;cases r
 have f:∀b u,H b=some u→¬LJ (some u)→b≠x:=fun b u q l z=>by subst z;rw [q] at m;exact l m
 refine ⟨fun b u q n _ _=>k b u (i b n) q,fun b u q n _ _=>⟨u.slots,k b u (i b n) q⟩,fun b u q n _=>by rw [AJ (g b n)];exact n,fun b u q _=>?_,
  fun b p q=>by rw [AJ (f b _ q fun z=>z)];exact q,fun b u p q=>by rw [AJ (f b _ q fun z=>z)];exact q,fun b s q=>⟨#[],by rw [AJ (f b _ q fun z=>z),q];simp⟩⟩
 by_cases c:b=e
 ·subst c;exact d
 ·exact ⟨u,k b u c q⟩
end
def LM (h:Heap) (H:Hp):List Addr:=(List.range h.objs.size).filter fun a=>(H a).isSome
def E7 (h:Heap) (H:Hp):Heap:=PySem.W.hideAll h (LM h H)
def aN (h:Heap) (H:Hp):(E7 h H).objs.size=h.objs.size:=PySem.W.hideAll_size _ _
def aO {h:Heap} {H:Hp} (e:h.get? b=some o) (n:H b=none):(E7 h H).get? b=some o:=
 PySem.W.hideAll_get _ e fun a=>by have q:(H b).isSome=true:=(qbQ.mp a).2;rw [n] at q;simp at q
def aP {h:Heap} {H:Hp} (e:(E7 h H).get? b=some o):h.get? b=some o∧H b=none:=by
 have a:h.get? b=some o:=PySem.W.of_hideAll (LM h H) e;refine ⟨a,?_⟩;cases q:H b with
 |none=>rfl
 |some x=>have c:b∈LM h H:=qbQ.mpr ⟨qb3.mpr (AY a),by simp [q]⟩;have z:(E7 h H).get? b=none:=PySem.W.hideAll_none (LM h H) c;rw [z] at e;cases e
def aQ (g h:Heap) (L:Addr):PQ:=(List.range h.objs.size).filterMap fun a=>if a=L∨(g.get? a).isSome=true then none else (h.get? a).map fun o=>(a,o)
def rest (g h:Heap) (L d:Addr):PQ:=(aQ g h L).filter fun p=>decide (p.1≠d)
structure Mod (K:Frag) (mg:Str→Option Value) (base:Heap):Prop where
 kin:K.In base
 glob:base.Ns mainGlobals mg
 blt:∃mb,base.Ns builtinsNs mb∧∀x:Str,x≠"__name__"→mb x=bootBuiltins x
 nolimit:base.NoLimit
structure Cx where
 prog:Program
 w:World
 K:Frag
 mg:Str→Option Value
 base:Heap
 A:Around
 N:List Str
 s₀:Shared
 H₀:Hp
 env:Env
 outer:List Env
 stack:List Env
 ex:List Addr
 fn:Str→Bool
 calm:Bool
 pn:PQ
 xe:Value→Shared→Prop
def frs (l:List Env):List Addr:=l.filterMap (·.frame)
abbrev Cx.fs (X:Cx):List Addr:=frs X.outer
def LN (s:Scope) (x:Str):Prop:=s.names.lookup x=some .local∨s.names.lookup x=some .cell∨s.names.lookup x=some .free
def Hf (s:Scope) (x:Str):Prop:=s.names.lookup x=some .local∨s.names.lookup x=some .cell
def Ui (e:Env) (h:Heap) (m:Str→Option Value) (x:Str) (u:Value):Prop:=
 (e.kindOf x=some .local∧m x=some u)∨((e.kindOf x=some .cell∨e.kindOf x=some .free)∧∃c,e.cells.lookup x=some c∧h.IsCell c (some u))
structure Cx.Ok (X:Cx):Prop where
 mod:Mod X.K X.mg X.base
 kind:X.env.scope.kind=.function
 glob:X.env.globals=mainGlobals
 blt:X.env.builtins=builtinsNs
 above:X.s₀.heap.objs.size≤X.env.locals
 inj:∀x y c,X.env.cells.lookup x=some c→X.env.cells.lookup y=some c→x=y
 has:∀x,(X.env.kindOf x=some .cell∨X.env.kindOf x=some .free)→∃c,X.env.cells.lookup x=some c
 cab:∀x c,X.fn x=true→X.env.cells.lookup x=some c→X.s₀.heap.objs.size≤c
 hd:X.calm=true→X.A.handled=none
 frames:X.A.frames=some X.stack
 stk:X.stack=X.outer∨(X.stack=X.env::X.outer∧X.env.frame=some X.env.locals)
 exf:∀b∈X.ex,b≠X.env.locals∧∀x c,X.env.cells.lookup x=some c→c≠b
 bs:∀b o,X.base.get? b=some o→X.s₀.heap.get? b=some o∧X.H₀ b=none
 bsz:X.base.objs.size≤X.s₀.heap.objs.size
 noex:∀b o,X.base.get? b=some o→b∉X.ex
 exfs:∀b∈X.ex,b∉X.fs
 funs:X.s₀.heap.FunFrames X.base X.outer
 frf:∀b∈X.fs,X.H₀ b=none
structure Inv (X:Cx) (pins:PQ) (σ:List (Option V)) (H:Hp) (s:Shared):Prop where
 ok:X.Ok
 os:s.os=X.s₀.os
 bare:AllBare s.gens
 base:Un X.fs X.ex X.H₀ H X.s₀.heap s.heap
 loc:∃m,s.heap.Ns X.env.locals m∧∀(i:Nat) (x:Str) (v:V),X.N[i]?=some x→σ[i]?=some (some v)→LN X.env.scope x→∃u,RelV v u∧Ui X.env s.heap m x u
 cell:∀x c,X.env.cells.lookup x=some c→∃v,s.heap.IsCell c v
 free:H X.env.locals=none
 freeC:∀x c,X.env.cells.lookup x=some c→H c=none
 pin:∀p∈X.pn++pins,s.heap.get? p.1=some p.2∧H p.1=none∧p.1≠X.env.locals∧p.1∉X.fs∧∀v,p.2.data≠.cell v
 hok:HOk X.prog X.w H s.heap
 len:σ.length=X.N.length
section
variable {X:Cx} {pins:PQ} {σ:List (Option V)} {H H':Hp} {s:Shared} {h':Heap}
def Cx.Ok.nofr (ok:X.Ok) {b:Addr} {o:Obj} (e:X.base.get? b=some o):b∉X.fs:=fun h=>by have:=(ok.funs.mem h).1;rw [e] at this;cases this
def Inv.bs (I:Inv X pins σ H s):∀b o,X.base.get? b=some o→s.heap.get? b=some o∧H b=none:=fun b o e=>⟨I.base.keep b o (I.ok.bs b o e).1 (I.ok.bs b o e).2 (I.ok.nofr e) (I.ok.noex b o e),I.base.free b o (I.ok.bs b o e).1 (I.ok.bs b o e).2 (I.ok.noex b o e)⟩
def Inv.bk (I:Inv X pins σ H s):∀b o,X.base.get? b=some o→s.heap.get? b=some o:=fun b o e=>(I.bs b o e).1
def Inv.mod (I:Inv X pins σ H s):Mod X.K X.mg X.base:=I.ok.mod
def Inv.kIn (I:Inv X pins σ H s):X.K.In s.heap:=I.ok.mod.kin.keeps I.bk
def Inv.nolimit (I:Inv X pins σ H s):s.heap.NoLimit:=I.ok.mod.nolimit.keeps I.bk
def Inv.lt (I:Inv X pins σ H s):X.env.locals<s.heap.objs.size:=let ⟨_,h,_⟩:=I.loc;h.lt
def Inv.sz (I:Inv X pins σ H s):X.s₀.heap.objs.size≤s.heap.objs.size:=BJ I.ok.above (IQ I.lt)
def Inv.nofs (I:Inv X pins σ H s) {a:Addr} (h:s.heap.objs.size≤a):a∉X.fs:=fun b=>by obtain ⟨_,o,c,_⟩:=I.ok.funs.mem b;exact absurd (Bn (AY c) (BJ I.sz h)) (Ea _)
def Inv.cne (I:Inv X pins σ H s):∀x c,X.env.cells.lookup x=some c→c≠X.env.locals:=fun x c e z=>by obtain ⟨v,o,b,d⟩:=I.cell x c e;obtain ⟨m,⟨f,g,i,h,a,_⟩,_⟩:=I.loc;rw [z,h] at b;cases b;rw [a] at d;cases d
def Inv.funs (I:Inv X pins σ H s):s.heap.FunFrames X.base X.outer:=by
 have all:∀(l:List Env),(∀b∈frs l,b∈X.fs)→X.s₀.heap.FunFrames X.base l→s.heap.FunFrames X.base l:=by
  intro l
  induction l with
  |nil=>intro _ _;trivial
  |cons f r i=>intro d g;obtain ⟨hk,⟨L,o,h,j,k,m⟩,n⟩:=g;have a:L∈X.fs:=d L (by unfold frs;rw [IG,h];exact AX);obtain ⟨p,e⟩:=I.base.slot L o k (I.ok.frf L a) a fun z=>I.ok.exfs L z a;exact ⟨hk,⟨L,_,h,j,e,m⟩,i (fun b c=>d b (by unfold frs;rw [IG,h];exact A2 _ c)) n⟩
 exact all X.outer (fun _ c=>c) I.ok.funs
def Inv.stack (I:Inv X pins σ H s):s.heap.FunFrames X.base X.stack:=by
 rcases I.ok.stk with e |⟨e,h⟩
 ·rw [e];exact I.funs
 ·rw [e];obtain ⟨m,a,_⟩:=I.loc;refine .cons (by rw [I.ok.kind];decide) h a ?_ I.funs;exact Heap.get?_none_of_le (BJ I.ok.bsz I.ok.above)
def Inv.stkSub (I:Inv X pins σ H s):∀b∈frs X.stack,b∈X.env.locals::X.fs:=fun b h=>by
 rcases I.ok.stk with e |⟨e,a⟩
 ·rw [e] at h;exact A2 _ h
 ·rw [e] at h;unfold frs at h;rw [IG,a] at h;exact h
def Inv.stkFree (I:Inv X pins σ H s):∀b∈frs X.stack,H b=none:=fun b h=>by
 rcases qa6.mp (I.stkSub b h) with e |h
 ·rw [e];exact I.free
 ·obtain ⟨_,o,a,_⟩:=I.ok.funs.mem h;exact I.base.free b o a (I.ok.frf b h) fun z=>I.ok.exfs b z h
def Inv.step {g':Array GenState} {t':Nat} {d':Drawn} {ch:List Addr} (I:Inv X pins σ H s)
 (a:∀b∈ch,(b∈X.ex∨X.s₀.heap.objs.size≤b)∧b≠X.env.locals∧(∀x c,X.env.cells.lookup x=some c→c≠b)∧∀p∈X.pn++pins,p.1≠b)
 (keep:∀b o,b≠X.env.locals→b∉X.fs→b∉ch→s.heap.get? b=some o→H b=none→h'.get? b=some o)
 (y:∀b o,b≠X.env.locals→b∈X.fs→b∉ch→s.heap.get? b=some o→H b=none→∃Q,h'.get? b=some {o with slots:=Q}) (f:∀b o,b∉ch→s.heap.get? b=some o→H b=none→H' b=none)
 (B:∀b o,b∉ch→s.heap.get? b=some o→∃F,h'.get? b=some F)
 (G:∀b A,H b=some (.tup A)→H' b=some (.tup A)) (J:∀b o u,H b=some (.frz o u)→H' b=some (.frz o u)) (L:∀b P,H b=some (.tbl P)→∃M,H' b=some (.tbl (P++M)))
 (ns:∀m,s.heap.Ns X.env.locals m→h'.Ns X.env.locals m) (R:HOk X.prog X.w H' h') (hg:AllBare g'):
 Inv X pins σ H' {s with heap:=h',gens:=g',drawn:=d',toks:=t'}:=by
 have N:∀b o,X.s₀.heap.get? b=some o→b≠X.env.locals:=fun b o e=>BX (Bn (AY e) I.ok.above);have t:∀b o,X.s₀.heap.get? b=some o→b∉X.ex→b∉ch:=fun b o e h C=>by
  rcases (a b C).1 with z |z
  ·exact h z
  ·exact absurd (Bn (AY e) z) (Ea _)
 have g:∀x c,X.env.cells.lookup x=some c→∀v,s.heap.IsCell c v→h'.IsCell c v:=fun x c e v S=>by
  obtain ⟨o,E,T⟩:=S;have j:c∉ch:=fun z=>(a c z).2.2.1 x c e rfl
  by_cases W:c∈X.fs
  ·obtain ⟨Q,q⟩:=y c o (I.cne x c e) W j E (I.freeC x c e);exact ⟨_,q,T⟩
  ·exact ⟨o,keep c o (I.cne x c e) W j E (I.freeC x c e),T⟩
 refine ⟨I.ok,I.os,hg,⟨fun b o e n C h=>?_,fun b o e n C h=>?_,fun b o e n h=>?_,fun b o e h=>?_,fun b A e=>G b A (I.base.tups b A e),fun b o A e=>J b o A (I.base.frzs b o A e),fun b P e=>?_⟩,?_,fun x c e=>?_,?_,fun x c e=>?_,fun p Y=>?_,R,I.len⟩
 ·exact keep b o (N b o e) C (t b o e h) (I.base.keep b o e n C h) (I.base.free b o e n h)
 ·obtain ⟨Q,w⟩:=I.base.slot b o e n C h;obtain ⟨U,O⟩:=y b _ (N b o e) C (t b o e h) w (I.base.free b o e n h);exact ⟨U,O⟩
 ·obtain ⟨F,w⟩:=I.base.there b o e h;exact f b F (t b o e h) w (I.base.free b o e n h)
 ·obtain ⟨F,w⟩:=I.base.there b o e h;exact B b F (t b o e h) w
 ·obtain ⟨m1,w⟩:=I.base.tbls b P e;obtain ⟨m2,O⟩:=L b _ w;exact ⟨m1++m2,by rw [O,Array.append_assoc]⟩
 ·obtain ⟨m,hn,hl⟩:=I.loc;refine ⟨m,ns m hn,fun i x v w O e3=>?_⟩;obtain ⟨u,r,l⟩:=hl i x v w O e3;refine ⟨u,r,?_⟩;rcases l with l |⟨k,c,e,z⟩
  ·exact .inl l
  ·exact .inr ⟨k,c,e,g x c e _ z⟩
 ·obtain ⟨v,z⟩:=I.cell x c e;exact ⟨v,g x c e v z⟩
 ·obtain ⟨m,⟨o,_,_,E,_⟩,_⟩:=I.loc;exact f _ o (fun z=>(a _ z).2.1 rfl) E I.free
 ·obtain ⟨v,o,E,T⟩:=I.cell x c e;exact f c o (fun z=>(a c z).2.2.1 x c e rfl) E (I.freeC x c e)
 ·obtain ⟨e,n,ne,Z,d⟩:=I.pin p Y;have j:p.1∉ch:=fun z=>(a p.1 z).2.2.2 p Y rfl;exact ⟨keep p.1 p.2 ne Z j e n,f p.1 p.2 j e n,ne,Z,d⟩
def Inv.un {t':Nat} (I:Inv X pins σ H s) (u:Un X.fs [] H H' s.heap h') (a:HOk X.prog X.w H' h'):Inv X pins σ H' {s with heap:=h',toks:=t'}:=by
 obtain ⟨m,⟨o,l,p,g,r⟩,_⟩:=id I.loc;obtain ⟨q,i⟩:=u.any g I.free (by simp);exact I.step (g':=s.gens) (d':=s.drawn) (ch:=[]) (fun _ z=>nomatch z) (fun b o _ c _ e n=>u.keep b o e n c (by simp)) (fun b o _ c _ e n=>u.slot b o e n c (by simp)) (fun b o _ e n=>u.free b o e n (by simp)) (fun b o _ e=>u.there b o e (by simp)) u.tups u.frzs u.tbls (fun t j=>by obtain ⟨v,d,f,h,k⟩:=j;rw [g] at h;cases h;exact ⟨_,d,f,i,k⟩) a I.bare
def Inv.call {g':Array GenState} {t':Nat} {d':Drawn} {ch:List Addr} (I:Inv X pins σ H s) (u:Un (frs X.stack) ch H H' s.heap h') (f:HOk X.prog X.w H' h') (l:AllBare g')
 (a:∀b∈ch,(b∈X.ex∨X.s₀.heap.objs.size≤b)∧b≠X.env.locals∧(∀x c,X.env.cells.lookup x=some c→c≠b)∧∀p∈X.pn++pins,p.1≠b):
 Inv X pins σ H' {s with heap:=h',gens:=g',drawn:=d',toks:=t'}:=by
 obtain ⟨m,⟨o,w,y,k,r⟩,_⟩:=id I.loc;obtain ⟨A,g⟩:=u.any k I.free fun z=>(a _ z).2.1 rfl;exact I.step (ch:=ch) a (fun b o g q h e n=>u.keep b o e n (fun z=>(qa6.mp (I.stkSub b z)).elim g q) h) (fun b o _ _ h e n=>u.any e n h) (fun b o h e n=>u.free b o e n h) (fun b o h e=>u.there b o e h) u.tups u.frzs u.tbls (fun B t=>by obtain ⟨C,i,j,d,v⟩:=t;rw [k] at d;cases d;exact ⟨_,i,j,g,v⟩) f l
def Inv.turned {t':Nat} (I:Inv X pins σ H s) (k:∀b o,b≠it→s.heap.get? b=some o→h'.get? b=some o) (f:H it=none) (d:it≠X.env.locals)
 (g:it∈X.ex∨X.s₀.heap.objs.size≤it) (i:∀x c,X.env.cells.lookup x=some c→c≠it) (j:∀p∈X.pn++pins,p.1≠it):Inv X pins σ H {s with heap:=h',toks:=t'}:=by
 have a:∀b u,H b=some u→b≠it:=fun b u e z=>by rw [z,f] at e;cases e
 refine I.step (g':=s.gens) (d':=s.drawn) (ch:=[it]) (fun b l=>?_) (fun b o _ _ h e _=>k b o (fun z=>h (by simp [z])) e) (fun b o _ _ h e _=>⟨o.slots,k b o (fun z=>h (by simp [z])) e⟩) (fun _ _ _ _ n=>n)
  (fun b o h e=>⟨o,k b o (fun z=>h (by simp [z])) e⟩) (fun _ _ e=>e) (fun _ _ _ e=>e) (fun b B e=>⟨#[],by rw [e];simp⟩) (fun m t=>?_) (fun b u e=>?_) I.bare
 ·have e:b=it:=by simpa using l
  subst e;exact ⟨g,d,i,j⟩
 ·obtain ⟨o,w,y,A,r⟩:=t;exact ⟨o,w,y,k _ o (Ne.symm d) A,r⟩
 ·refine (I.hok b u e).stay (fun c v h q=>k c v ?_ q) (fun _ q=>q) fun _ _ q=>q;rcases h with z |z
  ·rw [z];exact a b u e
  ·exact a c _ z
def Inv.tok (I:Inv X pins σ H s) (t:Nat):Inv X pins σ H {s with toks:=t}:=I.un (h':=s.heap) (t':=t) Un.refl I.hok
def Inv.kept {t':Nat} (I:Inv X pins σ H s) (k:∀b u,s.heap.get? b=some u→h'.get? b=some u):Inv X pins σ H {s with heap:=h',toks:=t'}:=I.un (Un.kept k) (I.hok.kept k)
def Inv.laid {o:HO} {t':Nat} (I:Inv X pins σ H s) (k:∀b u,s.heap.get? b=some u→h'.get? b=some u) (h:s.heap.objs.size≤a) (new:wu X.prog X.w (Av H a o) h' a o):
 Inv X pins σ (Av H a o) {s with heap:=h',toks:=t'}:=I.un (Un.laid k h (I.hok.fresh h)) (I.hok.laid k h new)
def Inv.write {o:HO} {t:Nat} (I:Inv X pins σ H s) (m:LJ (H x)) (a:e=x∨H e=some (.own x)) (k:∀b u,b≠e→s.heap.get? b=some u→h'.get? b=some u) (h:∃u,h'.get? e=some u)
 (new:wu X.prog X.w (Av H x o) h' x o):Inv X pins σ (Av H x o) {s with heap:=h',toks:=t}:=I.un (Un.write m a k h) (I.hok.write m a k h new)
def Inv.weak {σ':List (Option V)} (I:Inv X pins σ H s) (a:σ'.length=σ.length) (w:∀(i:Nat) v,σ'[i]?=some (some v)→σ[i]?=some (some v)):Inv X pins σ' H s:=
 ⟨I.ok,I.os,I.bare,I.base,let ⟨m,b,h⟩:=I.loc;⟨m,b,fun i x v e c d=>h i x v e (w i v c) d⟩,I.cell,I.free,I.freeC,I.pin,I.hok,a.trans I.len⟩
def Inv.pins_of {a:PQ} (I:Inv X pins σ H s) (h:∀p∈a,s.heap.get? p.1=some p.2∧H p.1=none∧p.1≠X.env.locals∧p.1∉X.fs∧∀v,p.2.data≠.cell v):Inv X a σ H s:=
 ⟨I.ok,I.os,I.bare,I.base,I.loc,I.cell,I.free,I.freeC,fun p b=>(qb1.mp b).elim (fun z=>I.pin p (G4 _ z)) (h p),I.hok,I.len⟩
def OA {N:List Str} (h:N.Nodup) {i j:Nat} {x:Str} (a:N[i]?=some x) (b:N[j]?=some x):i=j:=by obtain ⟨d,e⟩:=qa1.mp a;obtain ⟨f,c⟩:=qa1.mp b;exact (List.getElem_inj h).mp (e.trans c.symm)
def Ke {i:Nat} {x:Str} {Q:Unit→Shared→Prop} (I:Inv X pins σ H s) (hN:X.N.Nodup) (N:X.N[i]?=some x) (w:Hf X.env.scope x) (r:RelV v u)
 (h:∀Y,Inv X pins (σ.set i (some v)) H Y→(∃a,Heap.SameBut a s.heap Y.heap∧(a=X.env.locals∨X.env.cells.lookup x=some a))→Q () Y) (hf:X.fn x=true∨X.env.scope.names.lookup x=some .local:=by first |exact .inl rfl |exact .inr rfl |assumption):wpAny M A (storeName X.env x u) Q E s:=by
 obtain ⟨m,Z,hl⟩:=id I.loc;have O:(X.env.scope.kind==.class||(X.env.scope.kind==.module&&X.env.locals != X.env.globals))=false:=by rw [I.ok.kind];rfl
 have F:i < σ.length:=by rw [I.len];exact (qa1.mp N).1
 have cne:=I.cne;have t:∀{a:Addr} {h':Heap},(∃o,s.heap.get? a=some o∧H a=none)→Heap.SameBut a s.heap h'→HOk X.prog X.w H h':=fun {a h'} ha f b ob e=>by
  obtain ⟨_,_,B⟩:=ha;refine (I.hok b ob e).stay (fun c U l q=>(f.2 c ?_).trans q) (fun _ q=>q) fun _ _ q=>q;rintro rfl;rcases l with rfl |l
  ·rw [B] at e;cases e
  ·rw [B] at l;cases l
 rcases w with hk |hk
 ·refine wpAny_storeName_local hk Z (fun h' hn' f=>?_) O;obtain ⟨oL,_,_,hoL,_⟩:=id Z;refine h _ ⟨I.ok,I.os,I.bare,⟨fun b o e n G w=>?_,fun b o e n G w=>?_,I.base.free,fun b o e w=>?_,I.base.tups,I.base.frzs,I.base.tbls⟩,⟨_,hn',fun j y v' g C e3=>?_⟩,fun y c e=>?_,I.free,I.freeC,fun p hp=>?_,t ⟨oL,hoL,I.free⟩ f,by simpa using I.len⟩ ⟨_,f,.inl rfl⟩
  ·exact (f.2 b (BX (Bn (AY e) I.ok.above))).trans (I.base.keep b o e n G w)
  ·obtain ⟨sl,g⟩:=I.base.slot b o e n G w;exact ⟨sl,(f.2 b (BX (Bn (AY e) I.ok.above))).trans g⟩
  ·obtain ⟨o',g⟩:=I.base.there b o e w;exact ⟨o',(f.2 b (BX (Bn (AY e) I.ok.above))).trans g⟩
  ·by_cases J:j=i
   ·subst J;rw [N] at g;cases g;rw [BP F] at C;cases C;exact ⟨u,r,.inl ⟨hk,by simp⟩⟩
   ·rw [BI (Ne.symm J)] at C;obtain ⟨u',r',q⟩:=hl j y v' g C e3;refine ⟨u',r',?_⟩;rcases q with ⟨k,e⟩ |⟨k,c,e,z⟩
    ·refine .inl ⟨k,?_⟩;have:y≠x:=fun e=>J (OA hN g (e ▸ N));simp [this,e]
    ·exact .inr ⟨k,c,e,z.sameBut f (cne y c e)⟩
  ·obtain ⟨U,z⟩:=I.cell y c e;exact ⟨U,z.sameBut f (cne y c e)⟩
  ·obtain ⟨e,n,ne,nf,d⟩:=I.pin p hp;exact ⟨(f.2 p.1 ne).trans e,n,ne,nf,d⟩
 ·have L:X.fn x=true:=by
   rcases hf with z |z
   ·exact z
   ·rw [z] at hk;cases hk
  obtain ⟨c,l⟩:=I.ok.has x (.inl hk);obtain ⟨U,z⟩:=I.cell x c l;refine wpAny_storeName_cell I.ok.kind hk l z (fun h' P f=>?_);obtain ⟨oc,R,S⟩:=id z;refine h {s with heap:=h'} ⟨I.ok,I.os,I.bare,⟨fun b o e n G w=>?_,fun b o e n G w=>?_,I.base.free,fun b o e w=>?_,I.base.tups,I.base.frzs,I.base.tbls⟩,⟨m,Z.sameBut f (Ne.symm (cne x c l)),fun j y v' g C e3=>?_⟩,fun y W e=>?_,I.free,I.freeC,fun p hp=>?_,t ⟨oc,R,I.freeC x c l⟩ f,by simpa using I.len⟩ ⟨c,f,.inr l⟩
  ·exact (f.2 b (BX (Bn (AY e) (I.ok.cab x c L l)))).trans (I.base.keep b o e n G w)
  ·obtain ⟨sl,g⟩:=I.base.slot b o e n G w;exact ⟨sl,(f.2 b (BX (Bn (AY e) (I.ok.cab x c L l)))).trans g⟩
  ·obtain ⟨o',g⟩:=I.base.there b o e w;exact ⟨o',(f.2 b (BX (Bn (AY e) (I.ok.cab x c L l)))).trans g⟩
  ·by_cases J:j=i
   ·subst J;rw [N] at g;cases g;rw [BP F] at C;cases C;exact ⟨u,r,.inr ⟨.inl hk,c,l,P⟩⟩
   ·rw [BI (Ne.symm J)] at C;obtain ⟨u',r',q⟩:=hl j y v' g C e3;refine ⟨u',r',?_⟩;rcases q with q |⟨k,W,e,z'⟩
    ·exact .inl q
    ·refine .inr ⟨k,W,e,z'.sameBut f ?_⟩;rintro rfl;exact J (OA hN g (I.ok.inj _ _ _ e l ▸ N))
  ·by_cases T:W=c
   ·subst T;exact ⟨_,P⟩
   ·obtain ⟨w2,z2⟩:=I.cell y W e;exact ⟨w2,z2.sameBut f T⟩
  ·obtain ⟨e,n,ne,nf,d⟩:=I.pin p hp;refine ⟨(f.2 p.1 ?_).trans e,n,ne,nf,d⟩;intro q;rw [q,R] at e;have q':oc=p.2:=Option.some.inj e;exact d U (by rw [←q'];exact S)
def LO {i:Nat} {x:Str} {Q:Unit→Shared→Prop} (I:Inv X pins σ H s) (b:X.N.Nodup) (c:X.N[i]?=some x) (d:Hf X.env.scope x) (r:RelV v u)
 (h:∀a,Inv X pins (σ.set i (some v)) H a→Q () a) (e:X.fn x=true∨X.env.scope.names.lookup x=some .local:=by first |exact .inl rfl |exact .inr rfl |assumption):wpAny M A (storeName X.env x u) Q E s:=
 Ke I b c d r (fun a f _=>h a f) e
def Inv.call' {s':Shared} {ch:List Addr} (I:Inv X pins σ H s) (d:s'.os=s.os) (u:Un (frs X.stack) ch H H' s.heap s'.heap) (h:HOk X.prog X.w H' s'.heap) (f:AllBare s'.gens)
 (a:∀b∈ch,(b∈X.ex∨X.s₀.heap.objs.size≤b)∧b≠X.env.locals∧(∀x c,X.env.cells.lookup x=some c→c≠b)∧∀p∈X.pn++pins,p.1≠b):Inv X pins σ H' s':=by
 obtain ⟨h',g,i,t,o⟩:=s';have e:o=s.os:=d;subst e;exact I.call (g':=g) (t':=t) (d':=i) u h f a
end
abbrev XK:=Value→Option Addr→Hp→Prop
abbrev St:=List (Option V)
abbrev VK:=V→Hp→Prop
abbrev TE:=St→Hp→VK→Prop
abbrev TT:=St→Hp→(Bool→Hp→Prop)→Prop
abbrev TA:=St→Hp→(List V→Hp→Prop)→Prop
structure Eb where
 nx:St→Hp→Prop
 rt:VK
 bk:St→Hp→Prop:=fun _ _=>False
 ct:St→Hp→Prop:=fun _ _=>False
abbrev TS:=Eb→St→Hp→Prop
inductive EP (X:Cx) (pins:PQ) (σ:St) (Q:VK) (u:Value) (s':Shared):Prop where
 |mk (v:V) (H':Hp) (i:Inv X pins σ H' s') (r:RelV v u) (q:Q v H'):EP X pins σ Q u s'
inductive TP (X:Cx) (pins:PQ) (σ:St) (Q:Bool→Hp→Prop) (b:Bool) (s':Shared):Prop where
 |mk (H':Hp) (i:Inv X pins σ H' s') (q:Q b H'):TP X pins σ Q b s'
inductive AP (X:Cx) (pins:PQ) (σ:St) (Q:List V→Hp→Prop) (us:List Value) (s':Shared):Prop where
 |mk (vs:List V) (H':Hp) (i:Inv X pins σ H' s') (r:Vals vs us) (q:Q vs H'):AP X pins σ Q us s'
inductive SN (X:Cx) (pins:PQ) (q:St→Hp→Prop) (s':Shared):Prop where
 |mk (σ':St) (H':Hp) (i:Inv X pins σ' H' s') (p:q σ' H'):SN X pins q s'
inductive SR (X:Cx) (pins:PQ) (q:V→Hp→Prop) (u:Value) (s':Shared):Prop where
 |mk (v:V) (σ':St) (H':Hp) (i:Inv X pins σ' H' s') (r:RelV v u) (p:q v H'):SR X pins q u s'
def SP (X:Cx) (p:PQ) (D:Eb) (f:Flow) (s:Shared):Prop:=
 match f with
 |.next=>SN X p D.nx s
 |.brk=>SN X p D.bk s
 |.cont=>SN X p D.ct s
 |.ret u=>SR X p D.rt u s
def PE (X:Cx) (e:Expr) (t:TE):Prop:=
 ∀(p:PQ) (s:Shared) (a:St) (H:Hp) (Q:VK),Inv X p a H s→t a H Q→wpAny (model X.prog X.w) X.A (eval e X.env) (EP X p a Q) X.xe s
def PT (X:Cx) (e:Expr) (t:TT):Prop:=
 ∀(p:PQ) (s:Shared) (a:St) (H:Hp) (Q:Bool→Hp→Prop),Inv X p a H s→t a H Q→wpAny (model X.prog X.w) X.A (isTrue e X.env (eval e X.env)) (TP X p a Q) X.xe s
def PW (X:Cx) (e:Expr) (t:TT):Prop:=
 ∀(E6:Sem Value) (p:PQ) (s:Shared) (a:St) (H:Hp) (Q:Bool→Hp→Prop),Inv X p a H s→t a H Q→wpAny (model X.prog X.w) X.A (isTrue e X.env E6) (TP X p a Q) X.xe s
def PW.pt {t:TT} (h:PW X e t):PT X e t:=h _
def PA (X:Cx) (e:List Expr) (t:TA):Prop:=
 ∀(pos:Pos) (p:PQ) (s:Shared) (a:St) (H:Hp) (Q:List V→Hp→Prop),Inv X p a H s→t a H Q→wpAny (model X.prog X.w) X.A (spliced (backTo pos (starEach e X.env))) (AP X p a Q) X.xe s
def PS (X:Cx) (st:Stmt) (t:TS):Prop:=
 ∀(p:PQ) (s:Shared) (a:St) (H:Hp) (D:Eb),Inv X p a H s→t D a H→wpAny (model X.prog X.w) X.A (exec st X.env) (SP X p D) X.xe s
def DF (X:Cx) (st:List Stmt) (t:TS):Prop:=
 ∀(p:PQ) (s:Shared) (a:St) (H:Hp) (D:Eb),Inv X p a H s→t D a H→wpAny (model X.prog X.w) X.A (execs st X.env) (SP X p D) X.xe s
def Ap {b:Type} {t:Sem b} {Q q:b→Shared→Prop} {s:Shared} (h:wpAny M A t Q E s) (c:∀a s,Q a s→q a s):wpAny M A t q E s:=Bm h c fun _ _ x=>x
section
variable {X:Cx}
def Uj (i:Nat):TE:=fun a H Q=>∃v,a[i]?=some (some v)∧Q v H
def tC (v:V):TE:=fun _ H Q=>Q v H
def Uk {i:Nat} (g:X.N[i]?=some x) (j:LN X.env.scope x) (b:(x==("__debug__":Str))=false:=by decide) (d:(x==("__classdict__":Str))=false:=by decide):PE X (.Name x pos) (Uj i):=by
 intro p s k H Q I h;obtain ⟨v,e,h⟩:=h;obtain ⟨m,n,o⟩:=I.loc;obtain ⟨u,r,l⟩:=o i x v g e j;have AQ:EP X p k Q u s:=⟨v,H,I,r,h⟩
 rcases l with ⟨hk,q⟩ |⟨hk,c,f,a⟩
 ·exact wpAny_Name (wpAny_loadName_local I.ok.kind hk n q AQ) b
 ·rcases hk with hk |hk
  ·exact wpAny_Name (wpAny_loadName_cell I.ok.kind hk f a AQ) b
  ·exact wpAny_Name (wpAny_loadName_free I.ok.kind hk f a AQ d) b
def aR {i j pos}:PE X (.Constant (.int i) j pos) (tC (.int i)):=fun _ _ _ H _ I h=>wpAny_Constant_int ⟨.int i,H,I.tok _,⟨_,rfl⟩,h⟩
def aS {b j pos}:PE X (.Constant (.bool b) j pos) (tC (.bl b)):=fun _ _ _ H _ I h=>Constant_bool ⟨.bl b,H,I,rfl,h⟩
def aU {j pos}:PE X (.Constant .none j pos) (tC .non):=fun _ _ _ H _ I h=>Constant_none ⟨.non,H,I,rfl,h⟩
def Ul {x j pos}:PE X (.Constant (.str x) j pos) (tC (.str x)):=fun _ _ _ H _ I h=>Calls.Constant_str ⟨.str x,H,I.tok _,⟨_,rfl⟩,h⟩
def Gl (X:Cx) (x:Str):Prop:=X.env.kindOf x=some .globalImplicit
def Gj {a:St} {Q:Value→Shared→Prop} (I:Inv X p a H s) (b:Gl X x) (c:X.mg x=some u) (h:Q u s)
 (d:(x==("__debug__":Str))=false:=by decide):wpAny (model X.prog X.w) X.A (eval (.Name x pos) X.env) Q E s:=
 Calls.Name_function_global I.ok.kind b (Calls.loadGlobal_global (by rw [I.ok.glob];exact I.mod.glob.keeps I.bk) c h) d
def Hg {a:St} {x:Str} {Q:Value→Shared→Prop} (I:Inv X p a H s) (b:Gl X x) (c:X.mg x=none) (d:bootBuiltins x=some u) (h:Q u s)
 (e:x≠"__name__":=by decide) (f:(x==("__debug__":Str))=false:=by decide):wpAny (model X.prog X.w) X.A (eval (.Name x pos) X.env) Q E s:=by
 obtain ⟨m,g,i⟩:=I.mod.blt;exact Calls.Name_function_global I.ok.kind b (Calls.loadGlobal_builtin (by rw [I.ok.glob];exact I.mod.glob.keeps I.bk) c (by rw [I.ok.blt];exact g.keeps I.bk) ((i x e).trans d) h) f
def OB (a:Gl X x) (b:X.mg x=some u) (r:RelV v u) (c:(x==("__debug__":Str))=false:=by decide):PE X (.Name x pos) (tC v):=
 fun _ _ _ H _ I h=>Gj I a b ⟨v,H,I,r,h⟩ c
def aV {x:Str} (a:Gl X x) (b:X.mg x=none) (c:bootBuiltins x=some u) (r:RelV v u) (d:x≠"__name__":=by decide) (e:(x==("__debug__":Str))=false:=by decide):PE X (.Name x pos) (tC v):=
 fun _ _ _ H _ I h=>Hg I a b c ⟨v,H,I,r,h⟩ d e
variable {a b:Expr} {ta tb:TE} {pos:Pos}
variable {tA tB':TT} {rest:List Expr}
def aW (t u:TT):TT:=fun d H Q=>t d H fun c h=>if c=true then Q true h else u d h Q
def aX (t:TT):TT:=fun d H Q=>t d H fun c h=>Q (!c) h
def aY (d:PT X a tA):PW X (.BoolOp .Or [a] pos) tA:=by
 intro w p s f H Q I h;refine isTrue_or (Ap (d p s f H Q I h) fun c g e=>?_);cases c with
 |false=>exact isTrue_or_nil e
 |true=>exact e
def aZ (f:PT X a tA) (g:PW X (.BoolOp .Or (b::rest) pos) tB'):PW X (.BoolOp .Or (a::b::rest) pos) (aW tA tB'):=by
 intro w p s d H Q I h;refine isTrue_or (Ap (f p s d H _ I h) fun c j z=>?_);obtain ⟨e,i,q⟩:=z;cases c with
 |true=>exact ⟨e,i,q⟩
 |false=>exact g w p j d e Q i q
def ba (e:PT X a tA):PT X (.UnaryOp .Not a pos) (aX tA):=by intro p s f H Q I h;exact isTrue_not (Ap (e p s f H (fun c d=>Q (!c) d) I h) fun c g z=>by cases z with |mk d i q=>exact ⟨d,i,q⟩)
def bb (ta tb:TE):TE:=fun d H Q=>ta d H fun x h=>∃c,x=.bl c∧if c=true then tb d h Q else Q (.bl false) h
def bc (ta:TE):TE:=fun d H Q=>ta d H fun x h=>∃c,x=.bl c∧Q (.bl (!c)) h
def bf {o} (h:PE X a t):PE X (.BoolOp o [a] pos) t:=fun p s c H Q I d=>BoolOp_one (h p s c H Q I d)
def bg (f:PE X a ta) (g:PE X (.BoolOp .And (b::rest) pos) tb):PE X (.BoolOp .And (a::b::rest) pos) (bb ta tb):=by
 intro p s d H Q I h;refine BoolOp_and (Ap (f p s d H _ I h) fun v j z=>?_);obtain ⟨x,e,i,r,q⟩:=z;obtain ⟨c,rfl,q⟩:=q;cases r;refine Gh ?_;cases c with
 |true=>exact g p j d e Q i q
 |false=>exact ⟨.bl false,e,i,rfl,q⟩
def bh (d:PE X a ta):PE X (.UnaryOp .Not a pos) (bc ta):=by intro p s e H Q I h;refine UnaryOp_ (Ap (d p s e H _ I h) fun v g z=>?_);obtain ⟨x,f,i,r,q⟩:=z;obtain ⟨c,rfl,q⟩:=q;cases r;exact not_of (Gh ⟨.bl (!c),f,i,rfl,q⟩)
def bj (t:TT) (ta tb:TE):TE:=fun d H Q=>t d H fun c h=>if c=true then ta d h Q else tb d h Q
def bo (j:PT X c tA) (k:PE X a ta) (l:PE X b tb):PE X (.IfExp c a b pos) (bj tA ta tb):=by
 intro p s e H Q I h;refine wpAny_IfExp (Ap (j p s e H _ I h) fun d f z=>?_);obtain ⟨g,i,q⟩:=z;cases d with
 |true=>exact k p f e g Q i q
 |false=>exact l p f e g Q i q
end
def SqL (K:Frag) (H:Hp) (a:Addr) (x:List V):Prop:=
 Rd H a (.lst x)∨
  ∃(o:Obj) (i:Array Value) (n:Nat),K.lookup a=some o∧o.cls=.type "list"∧o.dict=none∧o.data=.seq i n∧i.size≤sizeLine∧Vals x i.toList
def SqT (K:Frag) (H:Hp) (a:Addr) (x:List V):Prop:=
 Rd H a (.tup x)∨
  ∃(o:Obj) (i:Array Value) (n:Nat),K.lookup a=some o∧o.cls=.type "tuple"∧o.data=.seq i n∧i.size≤sizeLine∧Vals x i.toList
noncomputable def bp:Value→Option V
 |.none=>some .non
 |.bool b=>some (.bl b)
 |.int i _=>some (.int i)
 |.str x _=>some (.str x)
 |.bytes b _=>some (.byt b)
 |.float b _=>some (.flt b)
 |.ref a=>some (.ref a)
 |.type n=>some (.ty n)
 |_=>none
def RelV.abs (r:RelV x u):bp u=some x:=by
 cases x with
 |non=>cases r;rfl
 |bl _=>cases r;rfl
 |int _=>obtain ⟨t,rfl⟩:=r;rfl
 |str _=>obtain ⟨t,rfl⟩:=r;rfl
 |byt _=>obtain ⟨t,rfl⟩:=r;rfl
 |flt _=>obtain ⟨t,rfl⟩:=r;rfl
 |ref _=>cases r;rfl
 |ty _=>cases r;rfl
def RelV.inj (r:RelV x u) (q:RelV y u):x=y:=Option.some.inj (r.abs.symm.trans q.abs)
def Vals.inj (h:Vals x u) (g:Vals y u):x=y:=by
 induction h generalizing y with
 |nil=>cases g;rfl
 |cons r t i=>cases g with |cons a b=>rw [r.inj a,i b]
section
variable {X:Cx} {pins:PQ} {σ:St} {H:Hp} {s:Shared} {a:Addr} {xs ys:List V}
def SqL.of {K:Frag} (h:H a=some (.lst xs)):SqL K H a xs:=.inl (.inl h)
def SqT.of {K:Frag} (h:H a=some (.tup xs)):SqT K H a xs:=.inl (.inl h)
def Inv.list (I:Inv X pins σ H s) (h:SqL X.K H a xs):∃i:List Value,Vals xs i∧PlainL s.heap a i.toArray∧xs.length≤sizeLine:=by
 rcases h with h |⟨o,i,n,hk,b,c,d,f,r⟩
 ·obtain ⟨z,i,n,r,e⟩:=h.ok I.hok;exact ⟨i,r,⟨_,n,e,rfl,rfl,rfl⟩,z⟩
 ·refine ⟨i.toList,r,⟨o,n,I.kIn a o hk,b,c,by simpa using d⟩,?_⟩;have e:=r.length;simp only [Array.length_toList] at e;omega
def Inv.tuple (I:Inv X pins σ H s) (h:SqT X.K H a xs):∃i:List Value,Vals xs i∧IsTup s.heap a i.toArray∧xs.length≤sizeLine:=by
 rcases h with h |⟨o,i,n,hk,b,c,d,r⟩
 ·obtain ⟨z,i,r,p,_⟩:=h.ok I.hok;exact ⟨i,r,p,z⟩
 ·refine ⟨i.toList,r,⟨o,I.kIn a o hk,b,n,by simpa using c⟩,?_⟩;have e:=r.length;simp only [Array.length_toList] at e;omega
def Inv.list_inj (I:Inv X pins σ H s) (h:SqL X.K H a xs) (h':SqL X.K H a ys):xs=ys:=by
 obtain ⟨b,r,⟨o,n,e,_,_,d⟩,_⟩:=I.list h;obtain ⟨i,f,⟨j,k,c,_,_,d'⟩,_⟩:=I.list h';rw [e] at c;cases c;rw [d] at d';injection d' with g _
 have:b=i:=by simpa using congrArg Array.toList g
 subst this;exact r.inj f
def Inv.tuple_inj (I:Inv X pins σ H s) (h:SqT X.K H a xs) (g:SqT X.K H a ys):xs=ys:=by
 obtain ⟨b,r,⟨o,e,_,n,d⟩,_⟩:=I.tuple h;obtain ⟨i,j,⟨l,c,_,m,f⟩,_⟩:=I.tuple g;rw [e] at c;cases c;rw [d] at f;injection f with k _
 have:b=i:=by simpa using congrArg Array.toList k
 subst this;exact r.inj j
end
section
variable {X:Cx} {st:Stmt} {rest:List Stmt} {t u:TS} {e:Expr} {te:TE} {pos:Pos}
def bq:TS:=fun D a H=>D.nx a H
def br (t u:TS):TS:=fun D a H=>t {D with nx:=u D} a H
def bt:DF X [] bq:=fun _ _ a H _ I h=>wpAny_execs_nil ⟨a,H,I,h⟩
def bu (b:PS X st t) (c:DF X rest u):DF X (st::rest) (br t u):=by
 intro p s d H D I h;refine wpAny_execs_cons (Ap (b p s d H {D with nx:=u D} I h) fun f g q=>?_);cases f with
 |next=>obtain ⟨a,i,j,q⟩:=q;exact c p g a i D j q
 |ret v=>exact q
 |brk=>exact q
 |cont=>exact q
def bw (a:PS X st t):DF X [st] t:=by
 intro p s b H D I h;refine wpAny_execs_cons (Ap (a p s b H D I h) fun f c q=>?_);cases f with
 |next=>exact wpAny_execs_nil q
 |ret v=>exact q
 |brk=>exact q
 |cont=>exact q
def Inv.quiet {a:St} (I:Inv X p a H s):interactive X.env=false:=by simp [interactive,I.ok.kind]
def bz (te:TE):TS:=fun D a H=>te a H fun _ h=>D.nx a h
def bA (b:PE X e te) (c:swapsWith e none pos.line X.env=pure false:=by rfl):PS X (.Expr e pos) (bz te):=by intro p s a H D I h;exact wpAny_Expr_any (Ap (b p s a H _ I h) fun v f z=>by obtain ⟨x,d,i,r,q⟩:=z;exact (⟨a,d,i,q⟩)) I.quiet c
def bC (te:TE):TS:=fun D a H=>te a H D.rt
def bE (b:PE X e te):PS X (.Return (some e) pos) (bC te):=by intro p s a H D I h;exact wpAny_Return_some (Ap (b p s a H _ I h) fun v d z=>by obtain ⟨x,c,i,r,q⟩:=z;exact (⟨x,a,c,i,r,q⟩))
def bF (c:TT) (t u:TS):TS:=fun D a H=>c a H fun b h=>if b=true then t D a h else u D a h
def bG {a b:List Stmt} {g:TT} (l:PT X c g) (m:DF X a t) (n:DF X b u):PS X (.If c a b pos) (bF g t u):=by
 intro p s f H D I h;refine wpAny_If (Ap (l p s f H _ I h) fun d i z=>?_);obtain ⟨j,k,q⟩:=z;cases d with
 |true=>exact m p i f j D k q
 |false=>exact n p i f j D k q
def Um:TS:=fun _ _ _=>False
def bH:PS X st Um:=fun _ _ _ _ _ _ h=>h.elim
def bI {s:List Stmt}:DF X s Um:=fun _ _ _ _ _ _ h=>h.elim
end
abbrev TG:=V→St→Hp→(St→Hp→Prop)→Prop
abbrev E8:=List V→St→Hp→(St→Hp→Prop)→Prop
def PG (X:Cx) (a:Expr) (t:TG):Prop:=
 ∀(p:PQ) (s:Shared) (b:St) (H:Hp) (v:V) (u:Value) (Q:St→Hp→Prop),Inv X p b H s→RelV v u→t v b H Q→
  wpAny (model X.prog X.w) X.A (assign a X.env u) (fun _ c=>SN X p Q c) X.xe s
def Kf (X:Cx) (b:List Expr) (t:E8):Prop:=
 ∀(p:PQ) (s:Shared) (a:St) (H:Hp) (v:List V) (u:List Value) (Q:St→Hp→Prop),Inv X p a H s→Vals v u→t v a H Q→
  wpAny (model X.prog X.w) X.A (assignInOrder ((assignEach b X.env).map (·.2)) u) (fun _ c=>SN X p Q c) X.xe s
abbrev Kg:=V→V→V→Hp→(Hp→Prop)→Prop
def OC (X:Cx) (t:Kg):Prop:=
 ∀(p:PQ) (s:Shared) (a:St) (H:Hp) (o i v:V) (b c u:Value) (Q:Hp→Prop),Inv X p a H s→RelV o b→RelV i c→RelV v u→t o i v H Q→
  wpAny (model X.prog X.w) X.A (setItem b c u) (fun _ d=>∃h,Inv X p a h d∧Q h) X.xe s
abbrev LP:=V→V→Hp→VK→Prop
def Uo (X:Cx) (o:Operator) (t:LP):Prop:=
 ∀(p:PQ) (s:Shared) (a:St) (H:Hp) (x y:V) (v u:Value) (Q:VK),Inv X p a H s→RelV x v→RelV y u→t x y H Q→
  wpAny (model X.prog X.w) X.A (inplaceOp o v u) (EP X p a Q) X.xe s
section
variable {X:Cx} {pos:Pos}
def CH (i:Nat):TG:=fun v a H Q=>Q (a.set i (some v)) H
def Cb {i:Nat} {x:Str} (a:X.N.Nodup) (b:X.N[i]?=some x) (c:Hf X.env.scope x) (d:X.fn x=true∨X.env.scope.names.lookup x=some .local:=by first |exact .inl rfl |exact .inr rfl |assumption):PG X (.Name x pos) (CH i):=by intro p s f H v u Q I r h;exact wpAny_assign_Name (LO I a b c r (fun g e=>⟨_,H,e,h⟩) d)
def Gk:E8:=fun v a H Q=>v=[]∧Q a H
def DG (t:TG) (u:E8):E8:=fun b c H Q=>∃v r,b=v::r∧t v c H fun a h=>u r a h Q
def Hh:Kf X [] Gk:=by intro p s a H v u Q I r h;obtain ⟨e,h⟩:=h;subst e;cases r;exact assignInOrder_nil ⟨a,H,I,h⟩
def CZ {e:Expr} {t:TG} {u:E8} (c:PG X e t) (d:Kf X a u)
 (f:(assignEach (e::a) X.env).map (·.2)=assign e X.env::(assignEach a X.env).map (·.2):=by rfl):Kf X (e::a) (DG t u):=by
 intro p s g H n o Q I r h;obtain ⟨v,w,i,h⟩:=h;subst i;cases r with
 |cons r j=>rw [f];refine assignInOrder_cons (Ap (c p s g H _ _ _ I r h) fun _ k z=>?_);obtain ⟨b,l,m,q⟩:=z;exact d p k b l _ _ Q m j q
def Hi (K:Frag) (n:Nat) (t:E8):TG:=fun v b H Q=>∃a x,v=.ref a∧SqT K H a x∧x.length=n∧t x b H Q
def IV {k:Nat} {t:E8} {n:Nat} (j:X.calm=true) (h:Kf X c t)
 (l:(assignEach c X.env).length=n:=by rfl) (d:(assignEach c X.env).findIdx? (·.1)=none:=by rfl):PG X (.Tuple c k pos) (Hi X.K n t):=by
 intro p s g H v u Q I r f;obtain ⟨a,x,m,q,w,f⟩:=f;subst m;cases r;obtain ⟨y,i,z,E⟩:=I.tuple q;refine assign_Tuple_tuple (I.ok.hd j) z (by simp [l,←w,i.length]) d fun A B=>?_;have C:Inv X p g H {s with heap:=A}:=I.kept (t':=s.toks) fun b o e=>B b o (BX (AY e)) e;exact h p _ g H x _ Q C (by simpa using i) f
def bJ (to b:TE) (t:Kg):TG:=fun v a H Q=>to a H fun o h=>b a h fun i c=>t o i v c fun d=>Q a d
def bK {t:Kg} (g:PE X o to) (j:PE X i f) (k:OC X t)
 (l:∀v,assign (.Subscript o i pos) X.env v=(do
  let a ←holding [v] (eval o X.env)
  let b ←holding [v,a] (eval i X.env)
  standAt pos
  holding [v,a,b] (setItem a b v)
  release [v,a,b] []):=by intro _;rfl):PG X (.Subscript o i pos) (bJ to f t):=by
 intro p s e H v u Q I r h;rw [l];refine Aj (DN (Ap (g p s e H _ I h) fun a m z=>?_));obtain ⟨x,n,q,w,A⟩:=z;refine Aj (DN (Ap (j p m e n _ q A) fun b B c=>?_));obtain ⟨y,C,E,F,G⟩:=c;refine Aj (wpAny_standAt (Aj (DN (Ap (k p B e C x y v a b u _ E w F r G) fun _ N d=>?_))));obtain ⟨J,L,M⟩:=d;exact wpAny_release ⟨e,J,L,M⟩
def Up (t:TE) (g:TG):TS:=fun D a H=>t a H fun x h=>g x a h D.nx
def OD {t e:Expr} {g:TG} (c:PE X e a) (d:PG X t g) (f:swapsWithSole [t] e pos.line X.env=pure false:=by rfl) (i:swappedStores [t] e X.env=pure none:=by rfl)
 (j:(assignEach [t] X.env).map (·.2)=[assign t X.env]:=by rfl):PS X (.Assign [t] e pos) (Up a g):=by
 intro p s b H D I h;refine wpAny_Assign_stores (Ap (c p s b H _ I h) fun v k z=>?_) f i;obtain ⟨x,l,m,r,n⟩:=z;rw [j];exact Ap (d p k b l x v _ m r n) fun _ o q=>q
def bL {i:Nat} {x:Str} (b:X.N.Nodup) (c:X.N[i]?=some x) (d:Hf X.env.scope x) (f:PE X e t) (g:swapsWith e (some (.Name x p)) pos.line X.env=pure false:=by rfl) (j:X.fn x=true∨X.env.scope.names.lookup x=some .local:=by first |exact .inl rfl |exact .inr rfl |assumption):
 PS X (.Assign [.Name x p] e pos) (Up t (CH i)):=by
 intro a s k H D I h;refine wpAny_Assign_Name (Ap (f a s k H _ I h) fun v o z=>?_) g;obtain ⟨y,l,m,r,q⟩:=z;exact LO m b c d r (fun u n=>⟨_,l,n,q⟩) j
def bM (i j:Nat) (t:TA):TS:=fun D a H=>t a H fun b h=>∃v w,b=[v,w]∧D.nx ((a.set i (some v)).set j (some w)) h
def bN {i j:Nat} {x y:Str} {a b:Expr} {l py pt:Pos} {m n d} (N:X.calm=true) (E:X.N.Nodup) (O:X.N[i]?=some x) (P:X.N[j]?=some y) (r:i≠j)
 (F:X.env.scope.names.lookup x=some .local) (G:X.env.scope.names.lookup y=some .local) (Q:PA X [a,b] C)
 (R:swappedStores [.Tuple [.Name x l,.Name y py] m pt] (.Tuple [a,b] n d) X.env=pure (some [x,y]))
 (S:swapsWithSole [.Tuple [.Name x l,.Name y py] m pt] (.Tuple [a,b] n d) pos.line X.env=pure false:=by rfl):
 PS X (.Assign [.Tuple [.Name x l,.Name y py] m pt] (.Tuple [a,b] n d) pos) (bM i j C):=by
 intro c s J H D I h;rw [exec_Assign_arm];refine Aj (wpAny_standAt ?_);rw [S];refine Aj (AD ?_);rw [if_neg (by decide)];refine Aj (Tuple_ (Ap (Q _ c s J H _ I h) fun T g z=>?_));obtain ⟨vs,L,U,W,t⟩:=z;obtain ⟨v,w,Y,t⟩:=t;subst Y;obtain ⟨u,k,rfl,Z,A⟩:∃u k,T=[u,k]∧RelV v u∧RelV w k:=by
  cases W with
  |cons p q=>
   cases q with
   |cons p' q'=>cases q';exact ⟨_,_,rfl,p,p'⟩
 refine EJ ?_ (by show 2≤sizeLine;decide);have I2:Inv X c J L {g with heap:=g.heap.push {cls:=.type "tuple",data:=.seq [u,k].toArray}}:=U.kept (t':=g.toks) fun b o e=>AW _ e;rw [R];refine Aj (AD ?_)
 show wpAny (model X.prog X.w) X.A (do rule "assign.swapped-stores";let f ←unpackItems (.ref g.heap.objs.size) 2 none;assignInOrder [fun v=>bindName X.env y v,fun v=>bindName X.env x v] f.reverse;pure Flow.next) _ _ _
 refine Aj (wpAny_rule (Aj (unpackItems_tuple (items:=#[u,k]) (I.ok.hd N) (IsTup.new g.heap _) fun h' B=>?_)));have I3:=I2.kept (h':=h') (t':=g.toks) fun b o e=>B b o (BX (AY e)) e
 show wpAny _ _ (assignInOrder [fun v=>bindName X.env y v,fun v=>bindName X.env x v] [k,u] >>=fun _=>pure Flow.next) _ _ _
 refine Aj (assignInOrder_cons (wpAny_bindName (LO I3 E P (.inl G) A (fun s2 I4=>?_) (.inr G))));refine assignInOrder_cons (wpAny_bindName (LO I4 E O (.inl F) Z (fun s3 M=>assignInOrder_nil (AD ?_)) (.inr F)));rw [List.set_comm _ _ (Ne.symm r)] at M;exact ⟨_,L,M,t⟩
def bO (to d e:TE) (t:V→V→Hp→VK→Prop) (c:LP) (a:Kg):TS:=fun D b H=>to b H fun o h=>d b h fun i f=>t o i f fun x g=>e b g fun y j=>c x y j fun z k=>a o i z k fun l=>D.nx b l
def Uq (X:Cx) (t:V→V→Hp→VK→Prop):Prop:=
 ∀(p:PQ) (s:Shared) (a:St) (H:Hp) (o i:V) (b c:Value) (Q:VK),Inv X p a H s→RelV o b→RelV i c→t o i H Q→
  wpAny (model X.prog X.w) X.A (getItem b c) (EP X p a Q) X.xe s
def bP {t:V→V→Hp→VK→Prop} {f:LP} {a:Kg} {w:Operator} (C:PE X o to) (E:PE X i r) (F:Uq X t) (G:PE X e u) (J:Uo X w f) (L:OC X a)
 (M:∀b c new,augStore i b c new=(do holding [new,b,c] (setItem b c new);release [new,b,c] [];pure .next):=by intros;rfl):PS X (.AugAssign (.Subscript o i g) w e pos) (bO to r u t f a):=by
 intro p s d H D I h;refine wpAny_AugAssign_SubscriptAny (Ap (C p s d H _ I h) fun b N z=>?_) M;obtain ⟨x,O,P,y,Q⟩:=z;refine Ap (E p N d O _ P Q) fun c R j=>?_;obtain ⟨A,S,T,B,U⟩:=j;refine Ap (F p R d S x A b c _ T y B U) fun q W k=>?_;obtain ⟨Y,Z,I3,r3,q3⟩:=k;refine Ap (G p W d Z _ I3 q3) fun v s4 l=>?_;obtain ⟨x4,H4,I4,r4,q4⟩:=l;refine Ap (J p s4 d H4 Y x4 q v _ I4 r3 r4 q4) fun new s5 m=>?_;obtain ⟨x5,H5,I5,r5,q5⟩:=m;exact Ap (L p s5 d H5 x A x5 b c new _ I5 y B r5 q5) fun _ s6 n=>by obtain ⟨H6,I6,q6⟩:=n;exact (⟨d,H6,I6,q6⟩)
def bQ (f:Int→Int→Int):LP:=fun x y H Q=>∃i j,x=.int i∧y=.int j∧Q (.int (f i j)) H
def bR:Uo X .Add (bQ fun i j=>i+j):=by intro p s c H x y v u Q I r a h;obtain ⟨i,j,e,b,q⟩:=h;subst e;subst b;obtain ⟨t,rfl⟩:=r;obtain ⟨d,rfl⟩:=a;exact iadd_int ⟨.int _,H,I.tok _,⟨_,rfl⟩,q⟩
end
section
variable {X:Cx} {pos:Pos}
def bS (c:TT) (t:TS):TS:=fun D a H=>∃W:Nat→St→Hp→Prop,(∃m,W m a H)∧∀m a H,W m a H→
 c a H fun b h=>if b=true then ∃N:St→Hp→Prop,(∀d e,N d e→∃f,f<m∧W f d e)∧t {D with nx:=N,ct:=N,bk:=D.nx} a h else D.nx a h
def bT {e:List Stmt} {t:TT} {o:TS} (r:PassesOwn (model X.prog X.w) X.A X.env X.xe) (B:PT X c t) (C:DF X e o):PS X (.While c e [] pos) (bS t o):=by
 intro p s E H D I h;obtain ⟨W,⟨F,G⟩,turn⟩:=h;refine wpAny_While (codeAny_whileLoop (fun n J=>SN X p (W n) J) ?_ F ⟨E,H,I,G⟩);rintro n L ⟨d,u,M,O⟩;refine wpAny_passesOwn r (Ap (B p L d u _ M (turn n d u O)) fun b P z=>?_);obtain ⟨x,y,q⟩:=z;cases b with
 |true=>
  obtain ⟨N,A,q⟩:=q;rw [if_pos rfl];refine wpAny_passesOwn r (Ap (C p P d x _ y q) fun f Q i=>?_);cases f with
  |next=>obtain ⟨a,g,j,k⟩:=i;obtain ⟨m,l,w⟩:=A a g k;exact ⟨m,l,a,g,j,w⟩
  |cont=>obtain ⟨a,g,j,k⟩:=i;obtain ⟨m,l,w⟩:=A a g k;exact ⟨m,l,a,g,j,w⟩
  |brk=>exact i
  |ret v=>exact i
 |false=>rw [if_neg BE];exact wpAny_execs_nil ⟨d,x,y,q⟩
end
structure It where
 go:Nat→Hp→Prop
 yld:Nat→Hp→V→Hp→Prop
 stop:Nat→Hp→Prop
def Dx (X:Cx) (a:PQ) (H:Hp) (b:Addr):Prop:=
 H b=none∧b≠X.env.locals∧b∉X.fs∧(b∈X.ex∨X.s₀.heap.objs.size≤b)∧(∀x c,X.env.cells.lookup x=some c→c≠b)∧∀p∈X.pn++a,p.1≠b
def Inv.fpOk {d:St} {H H':Hp} {s:Shared} (I:Inv X a d H s) (h:s.heap.objs.size≤b) (f:H' b=none):Dx X a H' b:=by
 refine ⟨f,CG (Bn I.lt h),I.nofs h,.inr (BJ I.sz h),fun x c e z=>?_,fun p g z=>?_⟩
 ·obtain ⟨v,q⟩:=I.cell x c e;exact absurd (Bn q.lt (by rw [z];exact h)) (Ea _)
 ·exact absurd (Bn (AY (I.pin p g).1) (by rw [z];exact h)) (Ea _)
structure FP (P:Program) (w:World) (K:Frag) (tg:Expr) (J:It) (fp:List Addr) (it:Addr) (tn:Nat→Heap→Prop):Prop where
 mem:it∈fp
 obj:∀i h,tn i h→∀b∈fp,∃o,h.get? b=some o∧∀v,o.data≠.cell v
 keep:∀i h h',tn i h→(∀b∈fp,∀o,h.get? b=some o→h'.get? b=some o)→tn i h'
 item:∀(X:Cx),X.prog=P→X.w=w→X.K=K→X.calm=true→∀(i:Nat) (pins:PQ) (s:Shared) (σ:St) (H:Hp) (E:Value→Shared→Prop),Inv X pins σ H s→(∀b∈fp,Dx X pins H b)→tn i s.heap→J.go i H→
  wpAny (model P w) X.A (pyNext (.ref it)) (fun r s1=>∃u,r=some u∧
   wpAny (model P w) X.A (letOwnedTupleGo tg (.ref it) u) (fun _ s2=>∃x H',Inv X pins σ H' s2∧RelV x u∧J.yld i H x H'∧tn (i+1) s2.heap∧∀b∈fp,H' b=none) E s1) E s
 done:∀(X:Cx),X.prog=P→X.w=w→X.K=K→X.calm=true→∀(i:Nat) (pins:PQ) (s:Shared) (σ:St) (H:Hp) (E:Value→Shared→Prop),Inv X pins σ H s→(∀b∈fp,Dx X pins H b)→tn i s.heap→J.stop i H→
  wpAny (model P w) X.A (pyNext (.ref it)) (fun r s1=>r=none∧Inv X pins σ H s1) E s
 self:∀(A:Around) (i:Nat) (s:Shared) (Q:Value→Shared→Prop) (E:Value→Shared→Prop),tn i s.heap→Q (.ref it) s→wpAny (model P w) A (pyIter (.ref it)) Q E s
abbrev TI:=St→Hp→(It→Hp→Prop)→Prop
inductive LQ (X:Cx) (pins:PQ) (σ:St) (tg:Expr) (R:It→Hp→Prop) (itv:Value) (s2:Shared):Prop where
 |mk (it:Addr) (fp:List Addr) (tn:Nat→Heap→Prop) (J:It) (H':Hp) (e:itv=.ref it) (i:Inv X pins σ H' s2) (t:FP X.prog X.w X.K tg J fp it tn) (st:tn 0 s2.heap) (f:∀b∈fp,Dx X pins H' b) (r:R J H'):LQ X pins σ tg R itv s2
def PI (X:Cx) (t iter:Expr) (w:TI):Prop:=
 ∀(p:PQ) (s:Shared) (a:St) (H:Hp) (R:It→Hp→Prop),Inv X p a H s→w a H R→
  wpAny (model X.prog X.w) X.A (eval iter X.env) (fun v b=>wpAny (model X.prog X.w) X.A (pyIter v) (LQ X p a t R) X.xe b) X.xe s
def LR {s:Shared} {o:Obj} {n:String} {v:Array Value} {Q:Unit→Shared→Prop} (b:s.heap.get? i=some o) (c:o.cls=.type n) (d:o.data=.fields v)
 (e:["enumerate","zip","dict_itemiterator","dict_reverseitemiterator","odict_iterator","itertools.zip_longest","itertools.pairwise"].contains n=false) (a:Q () s):wpAny M A (letOwnedTupleGo t (.ref i) u) Q E s:=by
 unfold letOwnedTupleGo;cases t<;>first
  |exact AD a
  |(cases u<;>first
   |exact AD a
   |(refine Aj (wpAny_load b ?_)
     rw [c,d]
     show wpAny M A (if (["enumerate","zip","dict_itemiterator","dict_reverseitemiterator","odict_iterator","itertools.zip_longest","itertools.pairwise"].contains n&&v[0]?==some (rawInt _))=true then _ else _) Q E s
     rw [if_neg (by intro h;rw [e,Bool.false_and] at h;cases h)];exact AD a))
def Kh (K:Frag) (a:Addr):It:=
 ⟨fun i H=>∃b x,SqL K H a b∧b[i]?=some x,fun i H x h=>h=H∧∀b,SqL K H a b→b[i]?=some x,fun i H=>∃b,SqL K H a b∧b.length≤i⟩
def Ki (K:Frag) (a:Addr):It:=
 ⟨fun i H=>∃b x,SqT K H a b∧b[i]?=some x,fun i H x h=>h=H∧∀b,SqT K H a b→b[i]?=some x,fun i H=>∃b,SqT K H a b∧b.length≤i⟩
def Kj (lo:Int) (n:Nat):It:=⟨fun i _=>i<n,fun i H x h=>h=H∧x=.int (lo+i),fun i _=>n≤i⟩
def bU {K:Frag} (a g:Addr):FP P w K R (Kh K a) [g] g (fun i h=>h.IsListIter g a i) where
 mem:=by simp
 obj:=fun i h st b j=>by
  have e:b=g:=by simpa using j
  subst e;obtain ⟨o,e,c,d⟩:=st;exact ⟨o,e,fun v z=>by rw [d] at z;cases z⟩
 keep:=fun i h m st k=>st.at fun o e=>k g (by simp) o e
 item:=by intro X r t y O i f s Q H E I n st A;subst r t y;obtain ⟨S,x,q,B⟩:=A;obtain ⟨C,F,p,T⟩:=I.list q;obtain ⟨u,U,W⟩:=F.get B;obtain ⟨G,J,Y,L,M,N⟩:=n g (by simp);refine wpAny_pyNext_list_item st p.isList (x:=u) (by simpa using U) fun m l Z=>?_;have I1:Inv X f Q H {s with heap:=m}:=I.turned (t':=s.toks) (fun b o j e=>(Z.2 b j).trans e) G J L M N;obtain ⟨o,e,c,d⟩:=id l;exact ⟨u,rfl,LR (s:={s with heap:=m}) e c d (by decide) ⟨x,H,I1,W,⟨rfl,fun ys hy=>by rw [I.list_inj hy q];exact B⟩,l,fun b j=>(n b j).1⟩⟩
 done:=by intro X r t y O i f s Q H E I n st A;subst r t y;obtain ⟨S,q,B⟩:=A;obtain ⟨C,F,p,T⟩:=I.list q;obtain ⟨G,J,Y,L,M,N⟩:=n g (by simp);have hl:=F.length;exact wpAny_pyNext_list_end (I.ok.hd O) st p.isList (by simp;omega) fun m eb=>⟨rfl,I.turned (t':=s.toks) (fun b o j e=>eb b o j e) G J L M N⟩
 self:=fun _ _ _ _ _ st h=>wpAny_pyIter_listiter st h
def bV {K:Frag} (a g:Addr):FP P w K R (Ki K a) [g] g (fun i h=>h.IsTupleIter g a i) where
 mem:=by simp
 obj:=fun i h st b j=>by
  have e:b=g:=by simpa using j
  subst e;obtain ⟨o,e,c,d⟩:=st;exact ⟨o,e,fun v z=>by rw [d] at z;cases z⟩
 keep:=fun i h n st k=>st.at fun o e=>k g (by simp) o e
 item:=by intro X t y A O i f s Q H E I q st B;subst t y A;obtain ⟨S,x,r,C⟩:=B;obtain ⟨l,F,p,T⟩:=I.tuple r;obtain ⟨u,U,W⟩:=F.get C;obtain ⟨G,J,Y,L,M,N⟩:=q g (by simp);refine wpAny_pyNext_tuple_item st (show s.heap.IsTuple a l.toArray from p) (x:=u) (by simpa using U) fun n m Z=>?_;have I1:Inv X f Q H {s with heap:=n}:=I.turned (t':=s.toks) (fun b o j e=>(Z.2 b j).trans e) G J L M N;obtain ⟨o,e,c,d⟩:=id m;exact ⟨u,rfl,LR (s:={s with heap:=n}) e c d (by decide) ⟨x,H,I1,W,⟨rfl,fun ys hy=>by rw [I.tuple_inj hy r];exact C⟩,m,fun b j=>(q b j).1⟩⟩
 done:=by intro X t y A O i f s Q H E I q st B;subst t y A;obtain ⟨S,r,C⟩:=B;obtain ⟨l,F,p,T⟩:=I.tuple r;obtain ⟨G,J,Y,L,M,N⟩:=q g (by simp);have hl:=F.length;exact wpAny_pyNext_tuple_end (I.ok.hd O) st (show s.heap.IsTuple a l.toArray from p) (by simp;omega) fun n eb=>⟨rfl,I.turned (t':=s.toks) (fun b o j e=>eb b o j e) G J L M N⟩
 self:=fun _ _ _ _ _ st h=>wpAny_pyIter_tupleiter st h
def bW {K:Frag} (a:Addr) (lo:Int) (n:Nat):FP P w K G (Kj lo n) [a] a (fun i h=>IsRangeIter h a (lo+(i:Nat)*1) ((n:Int) - (i:Nat)) 1) where
 mem:=by simp
 obj:=fun i h st b c=>by
  have e:b=a:=by simpa using c
  subst e;exact ⟨_,st,fun v z=>by have J:Data.fields _=Data.cell v:=z;cases J⟩
 keep:=fun i h f st k=>k a (by simp) _ st
 item:=by intro X j l m q i p s C H E I g st r;subst j l m;obtain ⟨u,x,L,y,A,B⟩:=g a (by simp);have W:=Walks.range (prog:=X.prog) (w:=X.w) (I.ok.hd q) a lo 1 n;refine W.item i s _ _ r st fun v f F M d N=>?_;obtain ⟨t,rfl⟩:=M;have O:Inv X p C H {s with heap:=f,toks:=F}:=I.turned (fun b o c e=>N b o (by simpa using c) e) u x y A B;refine ⟨_,rfl,LR (s:={s with heap:=f,toks:=F}) (n:="range_iterator") d rfl rfl (by decide) ⟨.int (lo+i),H,O,⟨t,?_⟩,⟨rfl,rfl⟩,d,fun b c=>(g b c).1⟩⟩;rw [Int.mul_one]
 done:=by intro X j l m q i p s C H E I g st r;subst j l m;obtain ⟨u,x,L,y,A,B⟩:=g a (by simp);exact wpAny_pyNext_range_end (I.ok.hd q) st (by have:n≤i:=r;omega) fun f Q=>⟨rfl,I.turned (t':=s.toks) (fun b o c e=>Q b o c e) u x y A B⟩
 self:=fun _ _ _ _ _ st h=>wpAny_pyIter_rangeiter st h
section
variable {X:Cx} {tg:Expr}
def Ur {a:St} {s:Shared} {R:It→Hp→Prop} {lo h:Int} {t u v:Tok} {c:Nat} (I:Inv X p a H s) (d:-(2^62)≤lo) (f:lo<2^62) (g:-(2^62)≤h) (j:h<2^62)
 (q:R (Kj lo (h - lo).toNat) H):wpAny (model X.prog X.w) X.A (pyIter (.ref s.heap.objs.size)) (LQ X p a tg R) E {s with heap:=s.heap.push {cls:=.type "range",data:=.fields #[.int lo t,.int h u,.int 1 v]},toks:=c}:=by
 refine wpAny_pyIter_range (IsRange.new ..) (small_one d f g j) ?_;have i:Inv X p a H {s with heap:=s.heap.push {cls:=.type "range",data:=.fields #[.int lo t,.int h u,.int 1 v]},toks:=c}:=I.kept fun b o e=>AW _ e;refine ⟨(s.heap.push {cls:=.type "range",data:=.fields #[.int lo t,.int h u,.int 1 v]}).objs.size,[(s.heap.push {cls:=.type "range",data:=.fields #[.int lo t,.int h u,.int 1 v]}).objs.size],_,_,H,rfl,
  i.kept (t':=c) fun b o e=>AW _ e,bW _ lo (h - lo).toNat,?_,fun b k=>?_,q⟩
 ·have l:lo+((0:Nat):Int)*1=lo:=by simp
  have m:(((h - lo).toNat:Nat):Int) - ((0:Nat):Int)=Builtin.Range.rangeSize lo h 1:=by rw [rangeSize_one];split<;>omega
  show IsRangeIter _ _ (lo+((0:Nat):Int)*1) ((((h - lo).toNat:Nat):Int) - ((0:Nat):Int)) 1
  rw [l,m];exact Bx _ rfl
 ·have e:b=(s.heap.push {cls:=.type "range",data:=.fields #[.int lo t,.int h u,.int 1 v]}).objs.size:=by simpa using k
  subst e;exact i.fpOk (AK _) (i.hok.fresh (AK _))
def bX (t:TA):TI:=fun a H R=>t a H fun v h=>∃j:Int,v=[.int j]∧-(2^62)≤j∧j<2^62∧R (Kj 0 j.toNat) h
def bY (t:TA):TI:=fun a H R=>t a H fun v h=>∃i j:Int,v=[.int i,.int j]∧(-(2^62)≤i∧i<2^62∧-(2^62)≤j∧j<2^62)∧R (Kj i (j - i).toNat) h
def bZ (f:Gl X "range") (g:X.mg "range"=none) (i:PA X [a] d) (k:starEach [a] X.env=[(false,eval a X.env)]:=by rfl):PI X tg (.Call (.Name "range" p) [a] [] pos) (bX d):=by
 intro b s l H R I h;refine Call_ (Hg I f g boot_range (PyProof.Rows.callWith_type1 (Ap (i pos b s l H _ I h) fun v w z=>?_) k rfl));obtain ⟨x,y,m,n,c⟩:=z;obtain ⟨j,e,c,o,q⟩:=c;subst e;cases n with
 |cons r u=>cases u;obtain ⟨t,rfl⟩:=r;exact call_range_1 (Ur m (by omega) (by omega) c o (by simpa using q))
def b8 {a b:Expr} (l:Gl X "range") (m:X.mg "range"=none) (n:PA X [a,b] k) (o:starEach [a,b] X.env=[(false,eval a X.env),(false,eval b X.env)]:=by rfl) (c:starEach [b] X.env=[(false,eval b X.env)]:=by rfl):
 PI X tg (.Call (.Name "range" p) [a,b] [] pos) (bY k):=by
 intro d s u H R I h;refine Call_ (Hg I l m boot_range (PyProof.Rows.callWith_type1 (Ap (n pos d s u H _ I h) fun B C ⟨E,F,v,w,f⟩=>?_) (by rw [o,c]) (by rw [c];rfl)));obtain ⟨i,j,e,⟨f,x,y,z⟩,q⟩:=f;subst e;cases w with
 |cons r g=>
  cases g with
  |cons A g=>cases g;obtain ⟨t,rfl⟩:=r;obtain ⟨G,rfl⟩:=A;exact call_range_2 (Ur v f x y z q)
def b9 (w:TI) (g:TG) (t:TS):TS:=fun D a H=>w a H fun J e=>∃W:Nat→Nat→St→Hp→Prop,(∃m,W 0 m a e)∧∀i m a H,W i m a H→
 (J.stop i H∧D.nx a H)∨(J.go i H∧∃N:St→Hp→Prop,(∀b h,N b h→∃d,d<m∧W (i+1) d b h)∧∀x h,J.yld i H x h→g x a h fun c f=>t {D with nx:=N,ct:=N,bk:=D.nx} c f)
def Gm (fp:List Addr) (h:Heap):PQ:=fp.filterMap fun b=>(h.get? b).map fun o=>(b,o)
def Kk {h:Heap} {b:Addr} (a:b∈f) (e:h.get? b=some o):(b,o)∈Gm f h:=List.mem_filterMap.mpr ⟨b,a,by rw [e];rfl⟩
def Us {h:Heap} {p:Addr×Obj} (a:p∈Gm f h):p.1∈f∧h.get? p.1=some p.2:=by
 obtain ⟨b,c,e⟩:=List.mem_filterMap.mp a;cases q:h.get? b with
 |none=>rw [q] at e;cases e
 |some o=>rw [q] at e;have d:(b,o)=p:=Option.some.inj e;subst d;exact ⟨c,q⟩
def Inv.pinned {c:St} {s:Shared} {fp:List Addr} (I:Inv X a c H s) (g:∀b∈fp,Dx X a H b) (i:∀b∈fp,∃o,s.heap.get? b=some o∧∀v,o.data≠.cell v):Inv X (a++Gm fp s.heap) c H s:=
 I.pins_of fun p j=>(qb1.mp j).elim (fun z=>I.pin p (BA _ z)) fun z=>by obtain ⟨h,e⟩:=Us z;obtain ⟨k,l,m,_⟩:=g p.1 h;obtain ⟨o,f,d⟩:=i p.1 h;rw [e] at f;cases f;exact ⟨e,k,l,m,d⟩
def Inv.unpinned {b:St} (I:Inv X (a++c) b H s):Inv X a b H s:=I.pins_of fun p h=>I.pin p (BA _ (G4 _ h))
inductive OE (X:Cx) (pins:PQ) (tn:Nat→Heap→Prop) (fp:List Addr) (W:Nat→Nat→St→Hp→Prop) (n:Nat) (s':Shared):Prop where
 |mk (i:Nat) (σ':St) (H':Hp) (ii:Inv X pins σ' H' s') (st:tn i s'.heap) (fr:∀b∈fp,H' b=none) (w:W i n σ' H'):OE X pins tn fp W n s'
def cb {t:List Stmt} {Z:TI} {g:TG} {tb:TS} (z:PassesOwn (model X.prog X.w) X.A X.env X.xe) (hc:X.calm=true) (hi:PI X tg iter Z) (hg:PG X tg g) (c:DF X t tb)
 (hs:∀x,foldedSetIterable iter X.env x=pure x:=by intro _;rfl):PS X (.For tg iter t [] pos) (b9 Z g tb):=by
 intro p s σ H D I h;refine wpAny_For (Ap (hi p s σ H _ I h) fun v s1 h1=>Ap h1 fun itv s2 h2=>?_) hs;obtain ⟨it,A,tn,J,H2,e,I2,T,Q,f2,W,⟨m0,w0⟩,turn⟩:=h2;subst e;have j:∀{H':Hp},(∀b∈A,H' b=none)→∀b∈A,Dx X p H' b:=fun hn b c=>⟨hn b c,(f2 b c).2⟩
 refine codeAny_forLoop_any (OE X p tn A W) ?_ m0 ⟨0,σ,H2,I2,Q,fun b c=>(f2 b c).1,w0⟩;rintro n s3 ⟨i,k,P,I3,B,C,w3⟩;rcases turn i n k P w3 with ⟨E,qn⟩ |⟨go,N,hN,step⟩
 ·refine wpAny_passesOwn z (Ap (T.done X rfl rfl rfl hc i p s3 k P X.xe I3 (j C) B E) fun r s4 F=>?_);obtain ⟨R,I4⟩:=F;subst R;exact wpAny_execs_nil ⟨k,P,I4,qn⟩
 ·refine wpAny_passesOwn z (Ap (T.item X rfl rfl rfl hc i p s3 k P X.xe I3 (j C) B go) fun r s4 G=>?_);obtain ⟨u,R,h4⟩:=G;subst R;refine wpAny_passesOwn z (Ap h4 fun _ s5 L=>?_);obtain ⟨x,H5,I5,r5,y5,y,S⟩:=L;have U:=I5.pinned (j S) (T.obj _ _ y);refine wpAny_passesOwn z (Ap (hg _ s5 k H5 x u _ U r5 (step x H5 y5)) fun _ s6 M=>?_);obtain ⟨Y,H6,I6,q6⟩:=M;refine wpAny_passesOwn z (Ap (c _ s6 Y H6 _ I6 q6) fun f s7 w=>?_);have again:∀{a:St} {l:Hp},Inv X (p++Gm A s5.heap) a l s7→N a l→∃m,m<n∧OE X p tn A W m s7:=fun {a l} q O=>by obtain ⟨m',hm,w7⟩:=hN a l O;refine ⟨m',hm,i+1,a,l,q.unpinned,T.keep _ _ _ y fun b c o e=>(q.pin (b,o) (BA _ (BA _ (Kk c e)))).1,fun b c=>?_,w7⟩;obtain ⟨o,e,d⟩:=T.obj _ _ y b c;exact (q.pin (b,o) (BA _ (BA _ (Kk c e)))).2.1
  cases f with
  |next=>obtain ⟨a,l,q,O⟩:=w;exact again q O
  |cont=>obtain ⟨a,l,q,O⟩:=w;exact again q O
  |brk=>obtain ⟨a,l,q,w⟩:=w;exact ⟨a,l,q.unpinned,w⟩
  |ret v=>obtain ⟨x7,a,l,q,r7,w⟩:=w;exact ⟨x7,a,l,q.unpinned,r7,w⟩
end
abbrev R2:=V→V→Hp→VK→Prop
def OpR (X:Cx) (f:Value→Value→Sem Value) (r:R2):Prop:=
 ∀(p:PQ) (s:Shared) (a:St) (H:Hp) (x y:V) (v u:Value) (Q:VK),Inv X p a H s→RelV x v→RelV y u→r x y H Q→
  wpAny (model X.prog X.w) X.A (f v u) (EP X p a Q) X.xe s
def OF (X:Cx) (f:Value→Sem Value) (r:V→Hp→VK→Prop):Prop:=
 ∀(p:PQ) (s:Shared) (a:St) (H:Hp) (x:V) (v:Value) (Q:VK),Inv X p a H s→RelV x v→r x H Q→
  wpAny (model X.prog X.w) X.A (f v) (EP X p a Q) X.xe s
def De (X:Cx) (f:Value) (r:List V→Hp→VK→Prop):Prop:=
 ∀(p:PQ) (s:Shared) (a:St) (H:Hp) (x:List V) (u:List Value) (Q:VK),Inv X p a H s→Vals x u→r x H Q→
  wpAny (model X.prog X.w) X.A (call f u) (EP X p a Q) X.xe s
def cf (X:Cx) (r:V→Hp→(Bool→Hp→Prop)→Prop):Prop:=
 ∀(p:PQ) (s:Shared) (a:St) (H:Hp) (x:V) (v:Value) (Q:Bool→Hp→Prop),Inv X p a H s→RelV x v→r x H Q→
  wpAny (model X.prog X.w) X.A (truthy v) (TP X p a Q) X.xe s
def LU (r:R2) (t b:TE):TE:=fun a H Q=>t a H fun x h=>b a h fun y c=>r x y c Q
def cg (r:V→Hp→VK→Prop) (t:TE):TE:=fun a H Q=>t a H fun x h=>r x h Q
def rI (C:Int→Int→Prop) (g:Int→Int→V):R2:=fun x y H Q=>∃i j,x=.int i∧y=.int j∧C i j∧Q (g i j) H
def E9 (g:Int→Int→V):R2:=fun x y H Q=>∃i j,x=.int i∧y=.int j∧Q (g i j) H
def rU (g:Int→V):V→Hp→VK→Prop:=fun x H Q=>∃i,x=.int i∧Q (g i) H
section
variable {X:Cx} {a b c:Expr} {ta tb tc:TE} {pos:Pos}
def OG (m:PE X a ta) (n:PE X b tb) {p:PQ} {s:Shared} {d:St} {H:Hp} {R:V→V→Hp→Prop} (I:Inv X p d H s)
 (h:ta d H fun x l=>tb d l fun y e=>R x y e) {Q:Value→Shared→Prop} {f:Value→Value→Sem Value}
 (o:∀v u k x y e,Inv X p d e k→RelV x v→RelV y u→R x y e→wpAny (model X.prog X.w) X.A (f v u) Q X.xe k):
 wpAny (model X.prog X.w) X.A (eval a X.env) (fun v g=>wpAny (model X.prog X.w) X.A (eval b X.env) (fun u i=>wpAny (model X.prog X.w) X.A (f v u) Q X.xe i) X.xe g) X.xe s:=by
 refine Ap (m p s d H _ I h) fun v q z=>?_;obtain ⟨x,l,r,t,w⟩:=z;refine Ap (n p q d l _ r w) fun u k j=>?_;obtain ⟨y,e,A,B,C⟩:=j;exact o v u k x y e A t B C
def cj {o:Operator} {r:R2} (d:OpR X (binaryOp o) r) (e:PE X a ta) (f:PE X b tb):PE X (.BinOp a o b pos) (LU r ta tb):=by intro p s g H Q I h;exact wpAny_BinOp (OG e f I h fun v u i x y j k l m q=>d p i g j x y v u Q k l m q)
def ck {o:UnaryOp} {r:V→Hp→VK→Prop} (e:OF X (unaryOp o) r) (f:PE X a ta):PE X (.UnaryOp o a pos) (cg r ta):=by intro p s d H Q I h;exact UnaryOp_ (Ap (f p s d H _ I h) fun v g z=>by obtain ⟨x,i,j,k,q⟩:=z;exact (e p g d i x v Q j k q))
def LV {f:Value→Value→Sem Value} {C:Int→Int→Prop} {g:Int→Int→Int} 
 (rule:∀(i j:Int) (t u:Tok) (s:Shared) (Q:Value→Shared→Prop) (E:Value→Shared→Prop),C i j→Q (.int (g i j) s.toks) {s with toks:=s.toks+1}→wpAny (model X.prog X.w) X.A (f (.int i t) (.int j u)) Q E s):
 OpR X f (rI C fun i j=>.int (g i j)):=by
 intro p s l H x y v u Q I r d h;obtain ⟨i,j,rfl,rfl,e,q⟩:=h;obtain ⟨t,rfl⟩:=r;obtain ⟨k,rfl⟩:=d;exact rule i j t k s _ _ e ⟨.int (g i j),H,I.tok _,⟨_,rfl⟩,q⟩
def OH {f:Value→Value→Sem Value} {g:Int→Int→Int} 
 (rule:∀(i j:Int) (t u:Tok) (s:Shared) (Q:Value→Shared→Prop) (E:Value→Shared→Prop),Q (.int (g i j) s.toks) {s with toks:=s.toks+1}→wpAny (model X.prog X.w) X.A (f (.int i t) (.int j u)) Q E s):
 OpR X f (E9 fun i j=>.int (g i j)):=by
 intro p s k H x y v u Q I r d h;obtain ⟨i,j,rfl,rfl,q⟩:=h;obtain ⟨t,rfl⟩:=r;obtain ⟨e,rfl⟩:=d;exact rule i j t e s _ _ ⟨.int (g i j),H,I.tok _,⟨_,rfl⟩,q⟩
def LW {f:Value→Value→Sem Value} {g:Int→Int→Bool} 
 (rule:∀(i j:Int) (t u:Tok) (s:Shared) (Q:Value→Shared→Prop) (E:Value→Shared→Prop),Q (.bool (g i j)) s→wpAny (model X.prog X.w) X.A (f (.int i t) (.int j u)) Q E s):
 OpR X f (E9 fun i j=>.bl (g i j)):=by
 intro p s k H x y v u Q I r d h;obtain ⟨i,j,rfl,rfl,q⟩:=h;obtain ⟨t,rfl⟩:=r;obtain ⟨e,rfl⟩:=d;exact rule i j t e s _ _ ⟨.bl (g i j),H,I,rfl,q⟩
def Ut (i j:Int):Prop:=0<j∧j<1073741824
def Kl (i j:Int):Prop:=0≤j∧j≤1000000∧i.natAbs<2^64
def CMul (i j:Int):Prop:=(-(2^64)<i∧i<2^64)∨(-(2^64)<j∧j<2^64)
def CMul.ok {i j:Int} (h:CMul i j):IntMulOk i j:=by
 rcases h with ⟨d,e⟩ |⟨d,e⟩
 ·exact .of_left (intBits_le_64 d e)
 ·exact .of_right (intBits_le_64 d e)
def op_add:OpR X (binaryOp .Add) (E9 fun i j=>.int (i+j)):=OH fun _ _ _ _ _ _ _ q=>add_int q
def cm:OpR X (binaryOp .Sub) (E9 fun i j=>.int (i - j)):=OH fun _ _ _ _ _ _ _ q=>sub_int q
def cp:OpR X (binaryOp .Mod) (rI (fun _ j=>0<j) fun i j=>.int (i % j)):=LV fun i j _ _ _ _ _ h q=>by have d:(0:Int)<j:=h;exact mod_int' (by omega) (by rw [Int.fmod_eq_emod_of_nonneg i (by omega)];exact q)
def cq:OpR X (binaryOp .LShift) (rI Kl fun i j=>.int (i*2^j.toNat)):=LV fun _ _ _ _ _ _ _ h q=>lshift_int_small h.1 h.2.1 h.2.2 q
def cu:OpR X (binaryOp .BitXor) (E9 fun i j=>.int (Builtin.bitXor i j)):=OH fun _ _ _ _ _ _ _ q=>xor_int q
def cw {f:Value→Sem Value} {g:Int→Int} 
 (rule:∀(i:Int) (t:Tok) (s:Shared) (Q:Value→Shared→Prop) (E:Value→Shared→Prop),Q (.int (g i) s.toks) {s with toks:=s.toks+1}→wpAny (model X.prog X.w) X.A (f (.int i t)) Q E s):
 OF X f (rU fun i=>.int (g i)):=by
 intro p s d H x v Q I r h;obtain ⟨i,rfl,q⟩:=h;obtain ⟨t,rfl⟩:=r;exact rule i t s _ _ ⟨.int (g i),H,I.tok _,⟨_,rfl⟩,q⟩
def cx:OF X (unaryOp .USub) (rU fun i=>.int (-i)):=cw fun _ _ _ _ _ q=>neg_int q
end
noncomputable def Uu:V→V→Bool
 |.non,.non=>true |.non,.int _=>true |.int _,.non=>true |.non,.bl _=>true |.bl _,.non=>true |.non,.str _=>true |.str _,.non=>true
 |.int _,.int _=>true |.bl _,.bl _=>true |.str _,.str _=>true |.byt _,.byt _=>true
 |.int _,.str _=>true |.str _,.int _=>true |.bl _,.str _=>true |.str _,.bl _=>true
 |_,_=>false
def cy:R2:=fun x y H Q=>Uu x y=true∧Q (.bl (decide (x=y))) H
def cz:R2:=fun x y H Q=>Uu x y=true∧Q (.bl (!decide (x=y))) H
def Uv {i j:Int}:decide (V.int i=V.int j)=(i==j):=by rw [qb4];simp
def Uw {i j:Bool}:decide (V.bl i=V.bl j)=(i==j):=by rw [qb4];simp
def LX:decide (V.str i=V.str j)=(i==j):=by rw [qb4];simp
def Ux {i j:Array UInt8}:decide (V.byt i=V.byt j)=(i.toList==j.toList):=by rw [qb4];cases i;cases j;simp
section
variable {X:Cx} {a b c:Expr} {ta tb tc:TE} {pos:Pos}
def Bv {d:St} {Q:VK} {k f:Bool} (I:Inv X p d H s) (q:Q (.bl k) H) (e:k=f):EP X p d Q (.bool f) s:=by subst e;exact ⟨.bl k,H,I,rfl,q⟩
def op_eq:OpR X (compareOp .Eq) cy:=by
 intro p s g H x y v u Q I f r h;obtain ⟨e,q⟩:=h;cases x with
 |non=>
  cases f;cases y with
  |non=>cases r;exact PySem.EqNone.eq_none_none (Bv I q (by simp))
  |bl j=>cases r;exact PySem.EqNone.eq_none_bool (Bv I q (by simp))
  |int j=>obtain ⟨d,rfl⟩:=r;exact PySem.EqNone.eq_none_int (Bv I q (by simp))
  |str j=>obtain ⟨d,rfl⟩:=r;exact PySem.EqNone.eq_none_str (Bv I q (by simp))
  |_=>exact absurd (show false=true from e) BE
 |bl i=>
  cases f;cases y with
  |non=>cases r;exact PySem.EqNone.eq_bool_none (Bv I q (by simp))
  |bl j=>cases r;exact eq_bool (Bv I q Uw)
  |str j=>obtain ⟨d,rfl⟩:=r;exact PySem.EqMixed.eq_bool_str (Bv I q (by simp))
  |_=>exact absurd (show false=true from e) BE
 |int i=>
  obtain ⟨t,rfl⟩:=f;cases y with
  |non=>cases r;exact PySem.EqNone.eq_int_none (Bv I q (by simp))
  |int j=>obtain ⟨d,rfl⟩:=r;exact eq_int (Bv I q Uv)
  |str j=>obtain ⟨d,rfl⟩:=r;exact PySem.EqMixed.eq_int_str (Bv I q (by simp))
  |_=>exact absurd (show false=true from e) BE
 |str i=>
  obtain ⟨t,rfl⟩:=f;cases y with
  |non=>cases r;exact PySem.EqNone.eq_str_none (Bv I q (by simp))
  |bl j=>cases r;exact PySem.EqMixed.eq_str_bool (Bv I q (by simp))
  |int j=>obtain ⟨d,rfl⟩:=r;exact PySem.EqMixed.eq_str_int (Bv I q (by simp))
  |str j=>obtain ⟨d,rfl⟩:=r;exact eq_str (Bv I q LX)
  |_=>exact absurd (show false=true from e) BE
 |byt i=>
  obtain ⟨t,rfl⟩:=f;cases y with
  |byt j=>obtain ⟨d,rfl⟩:=r;exact PySem.W.eq_bytes (Bv I q Ux)
  |_=>exact absurd (show false=true from e) BE
 |_=>cases y<;>exact absurd (show false=true from e) BE
def op_ne:OpR X (compareOp .NotEq) cz:=by
 intro p s g H x y v u Q I f r h;obtain ⟨e,q⟩:=h;cases x with
 |non=>
  cases f;cases y with
  |non=>cases r;exact PySem.EqNone.ne_none_none (Bv I q (by simp))
  |bl j=>cases r;exact PySem.EqNone.ne_none_bool (Bv I q (by simp))
  |int j=>obtain ⟨d,rfl⟩:=r;exact PySem.EqNone.ne_none_int (Bv I q (by simp))
  |str j=>obtain ⟨d,rfl⟩:=r;exact PySem.EqNone.ne_none_str (Bv I q (by simp))
  |_=>exact absurd (show false=true from e) BE
 |bl i=>
  cases f;cases y with
  |non=>cases r;exact PySem.EqNone.ne_bool_none (Bv I q (by simp))
  |bl j=>cases r;exact ne_bool (Bv I q (congrArg not Uw))
  |str j=>obtain ⟨d,rfl⟩:=r;exact PySem.EqMixed.ne_bool_str (Bv I q (by simp))
  |_=>exact absurd (show false=true from e) BE
 |int i=>
  obtain ⟨t,rfl⟩:=f;cases y with
  |non=>cases r;exact PySem.EqNone.ne_int_none (Bv I q (by simp))
  |int j=>obtain ⟨d,rfl⟩:=r;exact ne_int (Bv I q (congrArg not Uv))
  |str j=>obtain ⟨d,rfl⟩:=r;exact PySem.EqMixed.ne_int_str (Bv I q (by simp))
  |_=>exact absurd (show false=true from e) BE
 |str i=>
  obtain ⟨t,rfl⟩:=f;cases y with
  |non=>cases r;exact PySem.EqNone.ne_str_none (Bv I q (by simp))
  |bl j=>cases r;exact PySem.EqMixed.ne_str_bool (Bv I q (by simp))
  |int j=>obtain ⟨d,rfl⟩:=r;exact PySem.EqMixed.ne_str_int (Bv I q (by simp))
  |str j=>obtain ⟨d,rfl⟩:=r;exact ne_str (Bv I q (congrArg not LX))
  |_=>exact absurd (show false=true from e) BE
 |byt i=>
  obtain ⟨t,rfl⟩:=f;cases y with
  |byt j=>obtain ⟨d,rfl⟩:=r;exact PySem.W.ne_bytes (Bv I q (congrArg not Ux))
  |_=>exact absurd (show false=true from e) BE
 |_=>cases y<;>exact absurd (show false=true from e) BE
def cA:OpR X (compareOp .Lt) (E9 fun i j=>.bl (decide (i<j))):=LW fun _ _ _ _ _ _ _ q=>lt_int q
def cB:OpR X (compareOp .LtE) (E9 fun i j=>.bl (decide (i≤j))):=LW fun _ _ _ _ _ _ _ q=>le_int q
def cC:OpR X (compareOp .Gt) (E9 fun i j=>.bl (decide (j<i))):=LW fun _ _ _ _ _ _ _ q=>gt_int q
def cD:OpR X (compareOp .GtE) (E9 fun i j=>.bl (decide (j≤i))):=LW fun _ _ _ _ _ _ _ q=>ge_int q
def cE:OpR X (compareOp .In) (fun x y H Q=>∃i j,x=.str i∧y=.str j∧Q (.bl (!(Builtin.Str.occurrences j i 0 j.length 1).isEmpty)) H):=by intro p s e H x y v u Q I r d h;obtain ⟨i,j,rfl,rfl,q⟩:=h;obtain ⟨t,rfl⟩:=r;obtain ⟨f,rfl⟩:=d;exact in_str (Bv I q rfl)
def cF:OpR X (compareOp .Is) (fun x y H Q=>y=.non∧Q (.bl (decide (x=.non))) H):=by
 intro p s e H x y v u Q I r d h;obtain ⟨rfl,q⟩:=h;cases d;refine is_none_gen (Bv I q ?_);cases x<;>first
  |(cases r;rfl)
  |(obtain ⟨t,rfl⟩:=r;rfl)
def cG:OpR X (compareOp .IsNot) (fun x y H Q=>y=.non∧Q (.bl (!decide (x=.non))) H):=by
 intro p s e H x y v u Q I r d h;obtain ⟨rfl,q⟩:=h;cases d;refine isnot_none_gen (Bv I q ?_);cases x<;>first
  |(cases r;rfl)
  |(obtain ⟨t,rfl⟩:=r;rfl)
def OpR.or {f:Value→Value→Sem Value} {r d:R2} (h:OpR X f r) (j:OpR X f d):OpR X f (fun x y H Q=>r x y H Q∨d x y H Q):=by
 intro p s e H x y v u Q I g i q;rcases q with q |q
 ·exact h p s e H x y v u Q I g i q
 ·exact j p s e H x y v u Q I g i q
def EL (b:Expr) {o:CmpOp} (h:o≠.In:=by decide) (d:o≠.NotIn:=by decide):behindInMarks o b=false:=by
 have f:(o==CmpOp.In)=false:=by cases o<;>first |rfl |exact absurd rfl h
 have g:(o==CmpOp.NotIn)=false:=by cases o<;>first |rfl |exact absurd rfl d
 cases b with
 |Set e k p=>
  show (k==0&&(o==.In||o==.NotIn)&&e.all (constantsAlone 8))=false
  rw [f,g,Bool.or_self,Bool.and_false,Bool.false_and]
 |_=>rfl
def cH {o:CmpOp} {r:R2} (d:OpR X (compareOp o) r) (e:PE X a ta) (f:PE X b tb) (g:behindInMarks o b=false):PE X (.Compare a [o] [b] pos) (LU r ta tb):=by intro p s i H Q I h;exact wpAny_Compare1 (OG e f I h fun v u j x y k l m n q=>d p j i k x y v u Q l m n q) g
def Uy (t:TE):TT:=fun d H Q=>t d H fun x h=>∃k,x=.bl k∧Q k h
def cI {o:CmpOp} {r:R2} (g:OpR X (compareOp o) r) (i:PE X a ta) (j:PE X b tb) (l:behindInMarks o b=false):PT X (.Compare a [o] [b] pos) (Uy (LU r ta tb)):=by intro p s f H Q I h;refine wpAny_isTrue_Compare1 (Ap (i p s f H _ I h) fun v m ⟨x,n,q,t,w⟩=>Ap (j p m f n _ q w) ?_) l;rintro u A ⟨y,B,C,E,F⟩;refine Ap (g p A f B x y v u _ C t E F) fun c N d=>?_;obtain ⟨z,G,J,L,k,e,M⟩:=d;subst e;cases L;exact Gh ⟨G,J,M⟩
def OI (r e:R2) (ta tb tc:TE):TE:=fun d H Q=>ta d H fun x f=>tb d f fun y g=>r x y g fun z h=>∃k,z=.bl k∧
 (if k=true then tc d h fun w i=>e y w i Q else Q (.bl false) h)
def cJ {j o:CmpOp} {r m:R2} (A:OpR X (compareOp j) r) (l:OpR X (compareOp o) m) (B:PE X a ta) (C:PE X b tb) (E:PE X c tc)
 (F:lastMarks [j,o] [b,c]=false:=by with_unfolding_all rfl):PE X (.Compare a [j,o] [b,c] pos) (OI r m ta tb tc):=by
 intro p s f H Q I h;refine Compare_chain (Ap (B p s f H _ I h) fun v G ⟨x,J,L,M,N⟩=>chain_link (Ap (C p G f J _ L N) ?_)) F;rintro u O ⟨y,P,R,n,S⟩;refine Ap (A p O f P x y v u _ R M n S) fun d T g=>?_;obtain ⟨z,q,t,U,k,e,w⟩:=g;subst e;cases U;refine Gh ?_;cases k with
 |false=>exact ite_ff ⟨.bl false,q,t,rfl,w⟩
 |true=>exact ite_tt (chain_last (Ap (E p T f q _ t w) fun W Y i=>by obtain ⟨Z,H4,I4,r4,q4⟩:=i;exact (l p Y f H4 y Z u W Q I4 n r4 q4)))
def cK {j o:CmpOp} {r m:R2} (A:OpR X (compareOp j) r) (l:OpR X (compareOp o) m) (B:PE X a ta) (C:PE X b tb) (E:PE X c tc)
 (F:lastMarks [j,o] [b,c]=false:=by with_unfolding_all rfl):PT X (.Compare a [j,o] [b,c] pos) (Uy (OI r m ta tb tc)):=by
 intro p s f H Q I h;refine isTrue_chain (Ap (B p s f H _ I h) fun v G ⟨x,J,L,M,N⟩=>test_link (Ap (C p G f J _ L N) ?_)) F;rintro u O ⟨y,P,R,n,S⟩;refine Ap (A p O f P x y v u _ R M n S) fun d T g=>?_;obtain ⟨z,q,t,U,k,e,w⟩:=g;subst e;cases U;refine Gh ?_;cases k with
 |false=>obtain ⟨k',W,Y⟩:=w;cases W;exact ite_ff ⟨q,t,Y⟩
 |true=>refine ite_tt (test_last (Ap (E p T f q _ t w) ?_));rintro Z s4 ⟨z',H4,I4,r4,q4⟩;refine Ap (l p s4 f H4 y z' u Z _ I4 n r4 q4) fun d' s5 i=>?_;obtain ⟨z2,H5,I5,r5,k2,e2,q5⟩:=i;subst e2;cases r5;exact Gh ⟨H5,I5,q5⟩
def OJ (K:Frag) (x:V) (H:Hp) (k:Bool):Prop:=
 match x with
 |.non=>k=false
 |.bl b=>k=b
 |.int i=>k=(i != 0)
 |.str y=>y.length≤sizeLine∧k=((y.length:Int) != 0)
 |.byt y=>y.size≤sizeLine∧k=((y.size:Int) != 0)
 |.ref p=>(∃d,SqL K H p d∧k=!d.isEmpty)∨(∃d,SqT K H p d∧k=!d.isEmpty)
 |_=>False
def Uz {x:List V} {i:List Value} (r:Vals x i):(!i.toArray.isEmpty)=!x.isEmpty:=by cases r<;>simp
def Gn:(sizeLine:Nat)<2^63:=by rw [sizeLine_eq];decide
def cL:cf X (fun x H Q=>∃k,OJ X.K x H k∧Q k H):=by
 intro o s z H x v Q I g h;obtain ⟨k,e,q⟩:=h;have A:=Gn;have B:sizeLine=16777216:=sizeLine_eq;cases x with
 |non=>cases g;have d:k=false:=e;subst d;exact truthy_none ⟨H,I,q⟩
 |bl b=>cases g;have d:k=b:=e;subst d;exact Gh ⟨H,I,q⟩
 |int i=>obtain ⟨t,rfl⟩:=g;have d:k=(i != 0):=e;subst d;exact PySem.P.truthy_int ⟨H,I,q⟩
 |str y=>obtain ⟨t,rfl⟩:=g;obtain ⟨u,d⟩:y.length≤sizeLine∧k=((y.length:Int) != 0):=e;subst d;exact PySem.P.truthy_str (by omega) ⟨H,I.tok _,q⟩
 |byt y=>obtain ⟨t,rfl⟩:=g;obtain ⟨u,d⟩:y.size≤sizeLine∧k=((y.size:Int) != 0):=e;subst d;exact PySem.W.truthy_bytes (by omega) ⟨H,I.tok _,q⟩
 |ref p=>
  cases g;have d:(∃f,SqL X.K H p f∧k=!f.isEmpty)∨(∃f,SqT X.K H p f∧k=!f.isEmpty):=e;rcases d with ⟨f,l,d⟩ |⟨f,l,d⟩
  ·subst d;obtain ⟨m,r,n,w⟩:=I.list l;have j:=r.length;exact wpAny_truthy_list n.isList (by simp only [Bh];omega) ⟨H,I.tok _,by rw [Uz r];exact q⟩
  ·subst d;obtain ⟨m,r,n,w⟩:=I.tuple l;have j:=r.length;exact truthy_tuple n (by simp only [Bh];omega) ⟨H,I.tok _,by rw [Uz r];exact q⟩
 |_=>exact (show False from e).elim
def cM (f:PE X a ta) (g:∀E6,isTrue a X.env E6=(do let v ←E6;standAt a.pos;holding [v] (truthy v))):
 PT X a (fun d H Q=>ta d H fun x e=>∃k,OJ X.K x e k∧Q k e):=by
 intro p s d H Q I h;exact isTrue_plain (Ap (f p s d H _ I h) fun v i z=>by obtain ⟨x,j,l,r,q⟩:=z;exact (cL p i d j x v Q l r q)) (g _)
def cN:OpR X (binaryOp .Add) (fun x y H Q=>∃i j,x=.str i∧y=.str j∧i.length+j.length≤sizeLine∧Q (.str (i++j)) H):=by intro p s g H x y v u Q I r d h;obtain ⟨i,j,rfl,rfl,e,q⟩:=h;obtain ⟨t,rfl⟩:=r;obtain ⟨f,rfl⟩:=d;exact add_str (fun f k=>⟨.str (i++j),H,I.tok _,⟨_,rfl⟩,q⟩) e
def Ec (r:Vals [x] d):∃u,d=[u]∧RelV x u:=by
 cases r with
 |cons e f=>cases f;exact ⟨_,rfl,e⟩
def Km {x y:V} (r:Vals [x,y] d):∃u w,d=[u,w]∧RelV x u∧RelV y w:=by
 cases r with
 |cons e f=>
  cases f with
  |cons g h=>cases h;exact ⟨_,_,rfl,e,g⟩
def cO (e:X.calm=true):De X (.builtin "max") (fun x H Q=>∃i j,x=[.int i,.int j]∧Q (.int (if j>i then j else i)) H):=by
 intro p s f H x g Q I r h;obtain ⟨i,j,rfl,q⟩:=h;obtain ⟨u,w,rfl,⟨t,rfl⟩,⟨l,rfl⟩⟩:=Km r;refine max_two_ints (I.ok.hd e) fun m n k=>⟨_,H,I.kept k,?_,q⟩
 by_cases d:j>i
 ·rw [if_pos d,if_pos d];exact ⟨_,rfl⟩
 ·rw [if_neg d,if_neg d];exact ⟨_,rfl⟩
def cP (e:X.calm=true):De X (.builtin "min") (fun x H Q=>∃i j,x=[.int i,.int j]∧Q (.int (if j<i then j else i)) H):=by
 intro p s f H x g Q I r h;obtain ⟨i,j,rfl,q⟩:=h;obtain ⟨u,w,rfl,⟨t,rfl⟩,⟨l,rfl⟩⟩:=Km r;refine min_two_ints (I.ok.hd e) fun m n k=>⟨_,H,I.kept k,?_,q⟩
 by_cases d:j<i
 ·rw [if_pos d,if_pos d];exact ⟨_,rfl⟩
 ·rw [if_neg d,if_neg d];exact ⟨_,rfl⟩
def cQ:De X (.type "int") (fun x H Q=>(∃i,x=[.int i]∧Q (.int i) H)∨∃k,x=[.bl k]∧Q (.int (if k then 1 else 0)) H):=by
 intro p s e H x f Q I r h;rcases h with ⟨i,rfl,q⟩ |⟨k,rfl,q⟩
 ·obtain ⟨u,rfl,t,rfl⟩:=Ec r;exact call_int_int ⟨.int i,H,I,⟨_,rfl⟩,q⟩
 ·obtain ⟨u,rfl,d⟩:=Ec r;cases d;exact call_int_bool ⟨.int (if k then 1 else 0),H,I.tok _,⟨_,rfl⟩,q⟩
end
structure w6 (h:Heap) (x dx C:Addr) (mA:Str→Option Value):Prop where
 obj:h.get? x=some (instObj C dx)
 ns:h.Ns1 dx mA
 ne:dx≠x
def cS {h:Heap} {m:Str→Option Value} (n:h.Ns1 d m):∃c,h.get? d=some c∧∀name,lookIn name c=some (m name):=by
 obtain ⟨o,f,p,g,i,hk,_,j⟩:=n;refine ⟨o,g,fun name=>?_⟩;have e:=j name;unfold nsFind findBy at e;rw [←Array.find?_toList] at e;unfold lookIn;rw [i];dsimp only;split
 ·rename_i y q;rw [q] at e;exact congrArg some e
 ·rename_i q;rw [q] at e;have a:f.toList.any (·.refKey)=false:=by rw [List.any_eq_false];intro y k;obtain ⟨z,t,b⟩:=hk y (Array.mem_toList_iff.mp k);simp [DictEntry.refKey,b]
  have l:¬f.toList.any (·.refKey)=true:=by rw [a];exact BE
  rw [if_neg l];exact congrArg some e
def w6.look {m:Str→Option Value} (I:w6 h x d C m):∃o,PySem.W.InstAt h x (instObj C d) C (some o)∧∀name,lookIn name o=some (m name):=
 let ⟨o,a,b⟩:=cS I.ns
 ⟨o,⟨I.obj,rfl,rfl,a⟩,b⟩
section
variable {prog:Program} {w:World} {A:Around} {E:Value→Shared→Prop} {s:Shared} {K:Frag} {x dx C f:Addr} {mA:Str→Option Value} {name:Str} {v:Value}
def cT {e:Bool} {Q:Value→Shared→Prop} (X:K.In s.heap) (I:w6 s.heap x dx C mA) (b:plainGet K C name=true) (c:hasDictIn K C=true)
 (d:findIn K (.ref C) name=some none) (g:mA name=some v) (a:handedIn v=true) (h:Q v {s with toks:=s.toks+1}):
 wpAny (model prog w) A (getAttr (.ref x) name e) Q E s:=by
 obtain ⟨o,J,i⟩:=I.look;exact PySem.W.get_value X J (plainGet_of b).1 (PySem.W.findObj_own c d rfl (by rw [i,g])) a h
def cU {p:Sem Bool} {Q:Value×List Value→Shared→Prop} (X:K.In s.heap) (I:w6 s.heap x dx C mA) (a:plainGet K C name=true)
 (b:findIn K (.ref C) name=some (some (.ref f))) (c:isFn K (.ref f)=true) (d:mA name=none) (h:Q (.ref f,[.ref x]) s):
 wpAny (model prog w) A (getMethod (.ref x) name p) Q E s:=by
 obtain ⟨o,J,e⟩:=I.look;exact PySem.W.method_fn X J (plainGet_of a).1 (plainGet_of a).2 b (beq_iff_eq.mp c) (by show (lookIn name o).map (·.isSome)=some false;rw [e,d];rfl) h
def cV {n:List Str} {Q:Unit→Shared→Prop} (X:K.In s.heap) (I:w6 s.heap x dx C mA)
 (l:findIn K (.ref C) "__setattr__"=some (some (.builtin "object.__setattr__"))) (m:plainOver K C=true) (o:takerIn K C name=some none) (p:hasDictIn K C=true)
 (q:PySem.Within mA n) (t:n.length≤sizeLine)
 (h:∀e,w6 e x dx C (fun y=>if y=name then some v else mA y)→Heap.SameBut dx s.heap e→Q () {s with heap:=e,toks:=s.toks+2}):
 wpAny (model prog w) A (setAttr (.ref x) name v) Q E s:=by
 obtain ⟨G,J,H⟩:=I.look;refine PySem.W.set_plain X J l (PySem.W.osa_open (s:={s with toks:=s.toks+1}) (r:=none) X J m o fun b=>?_);obtain ⟨L,u,g⟩:=PySem.W.any_some p;have z:s.heap.get? x=some ⟨.ref C,some dx,.plain,#[]⟩:=I.obj;refine Aj (AD (Aj (Aj (wpAny_loadPart z (Aj (PySem.W.Looks.here (s:={s with toks:=s.toks+1}) (PySem.W.looks_clsIn X u) ?_))))));rw [g];refine AD (a:=some dx) (Aj (AD (Aj ?_)));refine wpAny_nsSet1 (s:={s with toks:=s.toks+1}) I.ns fun e c d=>?_;obtain ⟨M,B,F,i,j,k⟩:=c.count (PySem.Within.cons name v q);refine Aj (wpAny_lookBehind i (by rw [j];exact pastItsLine_dict (BJ k (by rw [Dc];omega))) ?_);exact AD (h _ ⟨(d.2 _ (Ne.symm I.ne)).trans I.obj,c,I.ne⟩ d)
def cW {R:Result→Shared→Prop} {b:List Value} {k:List (Str×Value)} (X:K.In s.heap) (c:makesIn K C=true)
 (e:findIn K (.ref C) "__init__"=some (some (.ref f))) (i:typeIn K (.ref f)=some (.type "function"))
 (h:codeAny (model prog w) (A.under (.builtin "type.__call__" ⟨.ref C::b,k⟩)) (.call (.ref f) ⟨.ref (s.heap.objs.size+1)::b,k⟩) (PySem.W.InitBack (s.heap.objs.size+1) R)
  {s with heap:=(s.heap.push emptyDict).push (instObj C s.heap.objs.size)}):
 codeAny (model prog w) A (.call (.ref C) ⟨b,k⟩) R s:=by
 obtain ⟨j,g,d,t,os⟩:=s;exact PySem.W.make_core (PySem.W.makes_of X c) (PySem.W.looks_findIn X e) (fun a=>PySem.W.bind_fn X a i) (.inl rfl) h
end
def CB (f:Str) (v:V):List (Str×V)→List (Str×V)
 |[]=>[(f,v)]
 |(g,x)::r=>if g=f then (g,v)::r else (g,x)::CB f v r
def UA (f g:Str) (v:V):∀fs:List (Str×V),(CB f v fs).lookup g=if g=f then some v else fs.lookup g
 |[]=>by
  show List.lookup g [(f,v)]=_
  by_cases h:g=f
  ·have a:(g==f)=true:=beq_iff_eq.mpr h;simp only [List.lookup,a,if_pos h]
  ·have a:(g==f)=false:=beq_eq_false_iff_ne.mpr h;simp only [List.lookup,a,if_neg h]
 |(k,x)::r=>by
  have i:=UA f g v r;rw [show CB f v ((k,x)::r)=(if k=f then (k,v)::r else (k,x)::CB f v r) from rfl]
  by_cases hk:k=f
  ·rw [if_pos hk]
   by_cases h:g=k
   ·have a:(g==k)=true:=beq_iff_eq.mpr h;simp only [List.lookup,a,if_pos (h.trans hk)]
   ·have a:(g==k)=false:=beq_eq_false_iff_ne.mpr h;simp only [List.lookup,a,if_neg (fun e:g=f=>h (e.trans hk.symm))]
  ·rw [if_neg hk]
   by_cases h:g=k
   ·have a:(g==k)=true:=beq_iff_eq.mpr h;simp only [List.lookup,a,if_neg (fun e:g=f=>hk (h.symm.trans e))]
   ·have a:(g==k)=false:=beq_eq_false_iff_ne.mpr h;simp only [List.lookup,a];exact i
def OK (f:Str) (v:V):∀fs:List (Str×V),f∈(CB f v fs).map (·.1)∧∀g,g∈fs.map (·.1)→g∈(CB f v fs).map (·.1)
 |[]=>⟨by simp [CB],fun g h=>by simp at h⟩
 |(k,x)::r=>by
  obtain ⟨i,a⟩:=OK f v r;rw [show CB f v ((k,x)::r)=(if k=f then (k,v)::r else (k,x)::CB f v r) from rfl]
  by_cases hk:k=f
  ·rw [if_pos hk];subst hk;exact ⟨by simp,fun g h=>by simpa using h⟩
  ·rw [if_neg hk];refine ⟨?_,fun g h=>?_⟩
   ·rw [Bk];exact A2 _ i
   ·rw [Bk] at h ⊢;rcases qa6.mp h with e |e
    ·exact qa6.mpr (.inl e)
    ·exact A2 _ (a g e)
def UB (f:Str) (v:V):∀fs:List (Str×V),(CB f v fs).length≤fs.length+1
 |[]=>by simp [CB]
 |(k,x)::r=>by
  have i:=UB f v r;rw [show CB f v ((k,x)::r)=(if k=f then (k,v)::r else (k,x)::CB f v r) from rfl]
  by_cases hk:k=f
  ·rw [if_pos hk,Dc,Dc];omega
  ·rw [if_neg hk,Dc,Dc];omega
def wX.some_of {o:Option Value} (r:wX (some v) o):∃u,o=some u∧RelV v u:=by
 cases o with
 |none=>exact (show False from r).elim
 |some u=>exact ⟨u,rfl,r⟩
def wX.none_of {o:Option Value} (r:wX none o):o=none:=by
 cases o with
 |none=>rfl
 |some u=>exact (show False from r).elim
def cX (r:RelV v u):handedIn u=true:=by
 cases v with
 |non=>cases (show u=Value.none from r);rfl
 |bl b=>cases (show u=Value.bool b from r);rfl
 |int i=>obtain ⟨t,e⟩:=(show ∃t,u=Value.int i t from r);cases e;rfl
 |str x=>obtain ⟨t,e⟩:=(show ∃t,u=Value.str x t from r);cases e;rfl
 |byt b=>obtain ⟨t,e⟩:=(show ∃t,u=Value.bytes b t from r);cases e;rfl
 |flt b=>obtain ⟨t,e⟩:=(show ∃t,u=Value.float b t from r);cases e;rfl
 |ref a=>cases (show u=Value.ref a from r);rfl
 |ty n=>cases (show u=Value.type n from r);rfl
section
variable {P:Program} {w:World} {H H':Hp} {h h':Heap} {a C dx:Addr} {fs fs':List (Str×V)}
def OL (b:HOk P w H h) (e:H a=some (.ins C dx fs)):∃m,w6 h a dx C m∧(∀f,wX (fs.lookup f) (m f))∧PySem.Within m (fs.map (·.1))∧fs.length≤1000∧H dx=some (.own a):=by
 obtain ⟨d,z,ne,o,m,n,r,q⟩:=(show wu P w H h a (.ins C dx fs) from b a _ e)
 exact ⟨m,⟨o,n,ne⟩,r,q,z,d⟩
end
structure Cls (K:Frag) (C:Addr):Prop where
 pg:plainGet K C Str.empty=true
 hd:hasDictIn K C=true
 po:plainOver K C=true
 sa:findIn K (.ref C) "__setattr__"=some (some (.builtin "object.__setattr__"))
def Cls.get {K:Frag} (c:Cls K C) (f:Str):plainGet K C f=true:=c.pg
def wO (K:Frag) (C:Addr) (f:Str):Prop:=findIn K (.ref C) f=some none
def wO.taker {K:Frag} (n:wO K C f):takerIn K C f=some none:=by unfold takerIn;rw [show findIn K (.ref C) f=some none from n];rfl
structure LY (K:Frag) (C:Addr) (m:Str) (f:Addr):Prop where
 at_:findIn K (.ref C) m=some (some (.ref f))
 fn:isFn K (.ref f)=true
 kp:keepIn K (.ref f)=true
section
variable {X:Cx} {pins:PQ} {σ:St} {H:Hp} {s:Shared} {a C dx:Addr} {fs:List (Str×V)} {f:Str} {v:V} {A:Around} {E:Value→Shared→Prop}
def cY {b:Bool} {Q:Value→Shared→Prop} (I:Inv X pins σ H s) (e:H a=some (.ins C dx fs)) (c:Cls X.K C) (n:wO X.K C f) (l:fs.lookup f=some v)
 (h:∀u d,Inv X pins σ H d→RelV v u→Q u d):wpAny (model X.prog X.w) A (getAttr (.ref a) f b) Q E s:=by
 obtain ⟨m,O,r,_,_,_⟩:=OL I.hok e;obtain ⟨u,i,g⟩:=wX.some_of (v:=v) (o:=m f) (by rw [←l];exact r f);exact cT I.kIn O (c.get f) c.hd n i (cX g) (h u _ (I.tok _) g)
def OM {g:Addr} {p:Sem Bool} {Q:Value×List Value→Shared→Prop} (I:Inv X pins σ H s) (e:H a=some (.ins C dx fs)) (c:Cls X.K C) (k:LY X.K C m g) (l:fs.lookup m=none)
 (h:Q (.ref g,[.ref a]) s):wpAny (model X.prog X.w) A (getMethod (.ref a) m p) Q E s:=by
 obtain ⟨b,O,r,_,_,_⟩:=OL I.hok e;have d:b m=none:=wX.none_of (by rw [←l];exact r m);exact cU I.kIn O (c.get m) k.at_ k.fn d h
def cZ {Q:Unit→Shared→Prop} (I:Inv X pins σ H s) (e:H a=some (.ins C dx fs)) (c:Cls X.K C) (n:wO X.K C f) (L:fs.length<1000) (k:RelV y u)
 (h:∀i,Inv X pins σ (Av H a (.ins C dx (CB f y fs))) i→Q () i):wpAny (model X.prog X.w) A (setAttr (.ref a) f u) Q E s:=by
 obtain ⟨m,O,r,w,_,j⟩:=OL I.hok e;have l:(fs.map (·.1)).length≤sizeLine:=by rw [Ci,sizeLine_eq];omega
 refine cV I.kIn O c.sa c.po n.taker c.hd w l fun p d t=>h _ ?_;have B:∃o,p.get? dx=some o:=let ⟨o,_,_,F,_⟩:=d.ns;⟨o,F⟩;refine I.write (x:=a) (e:=dx) (by rw [e];exact True.intro) (.inr j) (fun b q G z=>(t.2 b G).trans z) B ?_;refine ⟨by rw [AJ O.ne];exact j,?_,O.ne,d.obj,_,d.ns,fun g=>?_,fun g J=>?_⟩
 ·have:=UB f y fs;omega
 ·show wX ((CB f y fs).lookup g) (if g=f then some u else m g)
  rw [UA]
  by_cases q:g=f
  ·rw [if_pos q,if_pos q];exact k
  ·rw [if_neg q,if_neg q];exact r g
 ·by_cases q:g=f
  ·rw [q];exact (OK f y fs).1
  ·refine (OK f y fs).2 g (w g fun z=>J ?_)
   show (if g=f then some u else m g)=none
   rw [if_neg q];exact z
def Inv.made (I:Inv X pins σ H s):Inv X pins σ (Av (Av H s.heap.objs.size (.own (s.heap.objs.size+1))) (s.heap.objs.size+1) (.ins C s.heap.objs.size []))
 {s with heap:=(s.heap.push emptyDict).push (instObj C s.heap.objs.size)}:=by
 have c:(s.heap.push emptyDict).get? s.heap.objs.size=some emptyDict:=Bx s.heap rfl;have d:((s.heap.push emptyDict).push (instObj C s.heap.objs.size)).get? (s.heap.objs.size+1)=some (instObj C s.heap.objs.size):=by
  have:=Bx (s.heap.push emptyDict) (o:=instObj C s.heap.objs.size) rfl
  rwa [CQ] at this
 have g:(s.heap.push emptyDict).Ns s.heap.objs.size (fun _=>none):=⟨emptyDict,#[],_,c,rfl,(fun e h=>absurd h (by simp)),fun _=>rfl⟩
 have i:=I.laid (a:=s.heap.objs.size) (o:=.own (s.heap.objs.size+1)) (h':=s.heap.push emptyDict) (t':=s.toks) (fun b u q=>AW _ q) (AK _) ⟨_,c⟩;refine i.laid (a:=s.heap.objs.size+1) (o:=.ins C s.heap.objs.size []) (t':=s.toks) (fun b u q=>AW _ q) (IR (CQ _ _)) ?_;have ne:s.heap.objs.size≠s.heap.objs.size+1:=BX (IM _);refine ⟨by rw [AJ ne,CA],EI _,ne,d,fun _=>none,(Heap.Ns1.of_empty g).at fun o q=>AW _ q,fun _=>True.intro,fun y j=>absurd rfl j⟩
def de (d:attributeBase e f b (eval e b)=eval e b)
 (h:wpAny (model p w) A (eval e b) (fun o c=>wpAny (model p w) A (getAttr o f true) Q E c) E s):wpAny (model p w) A (eval (.Attribute e f pos) b) Q E s:=
 Attribute_any_ h (by rw [arm_eval_Attribute,d])
end
def df (K:Frag) (t:TE) (f:Str):TE:=fun b H Q=>t b H fun x h=>∃a C d fs v,x=.ref a∧h a=some (.ins C d fs)∧Cls K C∧wO K C f∧fs.lookup f=some v∧Q v h
def dg (K:Frag) (t c:TE) (f:Str):TS:=fun D b H=>c b H fun y e=>t b e fun x h=>∃a C d fs,x=.ref a∧h a=some (.ins C d fs)∧Cls K C∧wO K C f∧fs.length<1000∧
 D.nx b (Av h a (.ins C d (CB f y fs)))
section
variable {X:Cx} {o e value:Expr} {f:Str} {pos pos' tpos:Pos} {ta tv:TE}
def dh (b:PE X e ta) (d:attributeBase e f X.env (eval e X.env)=eval e X.env):PE X (.Attribute e f pos) (df X.K ta f):=by intro p s g H Q I h;refine de d (Ap (b p s g H _ I h) fun u w z=>?_);obtain ⟨x,i,j,r,a,C,y,fs,v,ex,k,c,n,l,q⟩:=z;subst ex;obtain rfl:u=Value.ref a:=r;exact cY j k c n l fun A B m t=>⟨v,i,m,t,q⟩
def dj (d:PE X o ta) (g:PE X value tv) (i:swapsWith value (some (.Attribute o f pos')) pos.line X.env=pure false):PS X (.Assign [.Attribute o f pos'] value pos) (dg X.K ta tv f):=by intro p s b H D I h;refine plainObj_wpAny_Assign_Attribute (Ap (g p s b H _ I h) ?_) i;rintro u j ⟨y,k,m,r,q⟩;refine Ap (d p j b k _ m q) fun t F z=>?_;obtain ⟨x,G,v,w,a,C,J,fs,ex,A,c,n,l,B⟩:=z;subst ex;obtain rfl:t=Value.ref a:=w;exact cZ v A c n l r fun L E=>⟨b,_,E,B⟩
end
section
variable {X:Cx} {pins:PQ} {σ:St} {H:Hp} {s:Shared} {A:Around} {E:Value→Shared→Prop} {Q:Value→Shared→Prop} {c:Value} {b:Bool}
inductive Fb (K:Frag) (H:Hp):V→Value→Prop where
 |non:Fb K H .non (.type "NoneType")
 |bl (x:Bool):Fb K H (.bl x) (.type "bool")
 |int (i:Int):Fb K H (.int i) (.type "int")
 |str (x:Str):Fb K H (.str x) (.type "str")
 |flt (x:UInt64):Fb K H (.flt x) (.type "float")
 |lst {a:Addr} {xs:List V} (e:H a=some (.lst xs)):Fb K H (.ref a) (.type "list")
 |frz {a:Addr} {o:Obj} {xs:List V} (e:H a=some (.frz o (.lst xs))):Fb K H (.ref a) (.type "list")
 |tup {a:Addr} {xs:List V} (e:SqT K H a xs):Fb K H (.ref a) (.type "tuple")
def dk (I:Inv X pins σ H s) (r:RelV x u) (j:Fb X.K H x t) (e:kitOne X.K t c=some b) (h:∀k,Q (.bool b) {s with toks:=k}):
 wpAny (model X.prog X.w) A (call (.builtin "isinstance") [u,c]) Q E s:=by
 cases j with
 |non=>cases (show u=Value.none from r);exact kia_one PySem.W.kitx_none I.kIn True.intro e (fun z=>nomatch z) h
 |bl y=>cases (show u=Value.bool y from r);exact kia_one PySem.W.kitx_bool I.kIn True.intro e (fun z=>nomatch z) h
 |int i=>obtain ⟨t,q⟩:=(show ∃t,u=Value.int i t from r);cases q;exact kia_one PySem.W.kitx_int I.kIn True.intro e (fun z=>nomatch z) h
 |str y=>obtain ⟨t,q⟩:=(show ∃t,u=Value.str y t from r);cases q;exact kia_one PySem.W.kitx_str I.kIn True.intro e (fun z=>nomatch z) h
 |flt y=>obtain ⟨t,q⟩:=(show ∃t,u=Value.float y t from r);cases q;exact kia_one PySem.W.kitx_float I.kIn True.intro e (fun z=>nomatch z) h
 |@lst a g d=>
  cases (show u=Value.ref a from r);obtain ⟨_,_,n,_,f⟩:=(show wu X.prog X.w H s.heap a (.lst g) from I.hok a _ d)
  exact kia_one kitx_list I.kIn ⟨_,f,rfl⟩ e (fun z=>nomatch z) h
 |@frz a l g d=>
  cases (show u=Value.ref a from r);obtain ⟨_,_,_,n,_,f⟩:=(show wu X.prog X.w H s.heap a (.frz l (.lst g)) from I.hok a _ d)
  exact kia_one kitx_list I.kIn ⟨_,f,rfl⟩ e (fun z=>nomatch z) h
 |@tup a g d=>cases (show u=Value.ref a from r);obtain ⟨_,_,p,_⟩:=I.tuple d;obtain ⟨o,f,m,_⟩:=p;exact kia_one PySem.W.kitx_tuple I.kIn ⟨o,f,m⟩ e (fun z=>nomatch z) h
end
structure wm (k:Nat) (A:Around):Prop where
 hd:A.handled=none
 dp:A.depth+3*k+5<recursionLimit
 un:A.units+16*k+200<cLine
 gd:A.guards=some []
def wm.mono {j k:Nat} (r:wm k A) (h:j≤k):wm j A:=⟨r.hd,by have:=r.dp;omega,by have:=r.un;omega,r.gd⟩
def wm.deeper {k:Nat} {A:Around} (r:wm (k+1) A) (e:Env):wm k (A.deeper e):=
 ⟨r.hd,by have:=r.dp;show A.depth+1+3*k+5<_;omega,by have:=r.un;show A.units+3+16*k+200<_;omega,r.gd⟩
def dm {A:Around} {C:Addr} {u:List Value} {k:List (Str×Value)}:(A.under (.builtin "type.__call__" ⟨.ref C::u,k⟩)).depth=A.depth+1:=by first |rfl |simp [Around.under,Code.weight,Code.isCreation,Code.isGuard,Code.isCaller,Code.frames,Code.isFrame,guardIds]
def dn {A:Around} {C:Addr} {u:List Value} {k:List (Str×Value)}:(A.under (.builtin "type.__call__" ⟨.ref C::u,k⟩)).units=A.units+1:=by first |rfl |simp [Around.under,Code.cUnits,Code.frames,Code.isFrame]
def wm.make {k:Nat} {A:Around} (r:wm (k+1) A) (C:Addr) (u:List Value) (a:List (Str×Value)):wm k (A.under (.builtin "type.__call__" ⟨.ref C::u,a⟩)):=
 ⟨r.hd,by have:=r.dp;rw [dm];omega,by have:=r.un;rw [dn];omega,by first |exact r.gd |(show pushGuards _ _=_;rw [r.gd];rfl)⟩
def wm.depth {k:Nat} {A:Around} (r:wm k A):A.depth<recursionLimit:=by have:=r.dp;omega
def wm.units {k:Nat} {A:Around} (r:wm k A):A.units+64<cLine:=by have:=r.un;omega
def LZ:TA:=fun _ H Q=>Q [] H
def dq (t:TE) (b:TA):TA:=fun a H Q=>t a H fun x h=>b a h fun c d=>Q (x::c) d
section
variable {X:Cx} {e:Expr} {es:List Expr} {te:TE} {t:TA} {pos:Pos}
def dr:PA X [] LZ:=fun _ _ _ _ H Q I h=>Calls.spliced_nil ⟨[],H,I,.nil,h⟩
def dt (c:PE X e te) (d:PA X es t) (f:starEach (e::es) X.env=(false,eval e X.env)::starEach es X.env:=by rfl):PA X (e::es) (dq te t):=by
 intro pos p s b H Q I h;rw [f]
 show wpAny _ _ (spliced ((false,eval e X.env)::backTo pos (starEach es X.env))) _ _ s
 refine Calls.spliced_cons (Ap (c p s b H _ I h) fun u g z=>?_);obtain ⟨x,i,j,r,q⟩:=z;exact Ap (d pos p g b i _ j q) fun v w a=>by obtain ⟨k,l,m,n,o⟩:=a;exact (⟨x::k,l,m,.cons r n,o⟩)
def du (t:TA):TE:=fun a H Q=>t a H fun x h=>x.length≤sizeLine∧∀p,h p=none→Q (.ref p) (Av h p (.tup x))
def dw (t:TA):TE:=fun a H Q=>t a H fun x h=>x.length≤sizeLine∧∀p,h p=none→Q (.ref p) (Av h p (.lst x))
def dy {x} (h:PA X es t):PE X (.Tuple es x pos) (du t):=by intro p s d H Q I f;refine wpAny_Tuple_spliced (Ap (h pos p s d H _ I f) fun g a ⟨j,c,i,r,z,q⟩=>⟨by rw [←r.length];exact z,?_⟩);have k:c a.heap.objs.size=none:=i.hok.fresh (AK _);refine ⟨.ref a.heap.objs.size,Av c a.heap.objs.size (.tup j),i.laid (t':=a.toks) (fun b u e=>AW _ e) (AK _) ?_,rfl,q _ k⟩;exact ⟨z,g,r,⟨_,Bx _ rfl,rfl,_,rfl⟩,wH.new⟩
def dz (h:PA X es t):PE X (.List es pos) (dw t):=by intro p s d H Q I f;refine wpAny_List_spliced (Ap (h pos p s d H _ I f) fun g a ⟨x,c,i,r,z,q⟩=>⟨by rw [←r.length];exact z,?_⟩);have j:c a.heap.objs.size=none:=i.hok.fresh (AK _);refine ⟨.ref a.heap.objs.size,Av c a.heap.objs.size (.lst x),i.laid (t':=a.toks) (fun b u e=>AW _ e) (AK _) ?_,rfl,q _ j⟩;exact ⟨z,g,0,r,Bx _ rfl⟩
end
abbrev Sp:=List V→Hp→VK→XK→Prop
abbrev Fc:=List Env→Hp→Shared→XK→Value→Shared→Prop
structure Env0 (P:Program) (w:World) (K:Frag) (mg:Str→Option Value) (base:Heap) (A:Around) (outer:List Env) (s:Shared) (H:Hp):Prop where
 frames:A.frames=some outer
 mod:Mod K mg base
 bs:∀b o,base.get? b=some o→s.heap.get? b=some o∧H b=none
 bsz:base.objs.size≤s.heap.objs.size
 funs:s.heap.FunFrames base outer
 frf:∀b∈frs outer,H b=none
 hok:HOk P w H s.heap
 bare:AllBare s.gens
inductive CE (outer:List Env) (P:Program) (w:World) (H:Hp) (s:Shared) (Q:VK) (u:Value) (s':Shared):Prop where
 |mk (v:V) (H':Hp) (os:s'.os=s.os) (bare:AllBare s'.gens) (un:Un (frs outer) [] H H' s.heap s'.heap) (hok:HOk P w H' s'.heap) (r:RelV v u) (q:Q v H'):CE outer P w H s Q u s'
def CR (C:Fc) (o:List Env) (P:Program) (w:World) (H:Hp) (s:Shared) (Q:VK) (E:XK) (r:Result) (a:Shared):Prop:=
 match r with
 |.ok (.ret u)=>CE o P w H s Q u a
 |.ok _=>False
 |.error e=>C o H s E e a
structure wz (P:Program) (w:World) (K:Frag) (mg:Str→Option Value) (base:Heap) (CX:Fc) (k:Nat) (f:Addr) (fd:FuncData) (ps:List Str) (sp:Sp):Prop where
 len:∀vs H Q E,sp vs H Q E→vs.length=ps.length
 run:∀(A:Around) (outer:List Env) (s:Shared) (H:Hp) (args:Args) (us:List Value) (vs:List V) (Q:VK) (E:XK),wm k A→Env0 P w K mg base A outer s H→BindsTo s fd args (ps.zip us)→Vals vs us→sp vs H Q E→
  codeAny (model P w) A (.call (.ref f) args) (CR CX outer P w H s Q E) s
def wz.mono {K:Frag} {C:Fc} {j k:Nat} {p:List Str} {d:Sp} (F:wz P w K m b C j f c p d) (h:j≤k):
 wz P w K m b C k f c p d:=⟨F.len,fun A o s H a u v Q E e=>F.run A o s H a u v Q E (e.mono h)⟩
def wz.imp {K:Frag} {C:Fc} {k:Nat} {p:List Str} {e a:Sp} (F:wz P w K m b C k f d p e)
 (h:∀v H Q E,a v H Q E→e v H Q E):wz P w K m b C k f d p a:=
 ⟨fun v H Q E q=>F.len v H Q E (h _ _ _ _ q),fun A o s H c u v Q E g i j l n=>F.run A o s H c u v Q E g i j l (h _ _ _ _ n)⟩
def Env0.make {K:Frag} {A:Around} (e:Env0 P w K m b A o s H) (C:Addr) (u:List Value) (k:List (Str×Value)):
 Env0 P w K m b (A.under (.builtin "type.__call__" ⟨.ref C::u,k⟩)) o s H:=⟨by first |exact e.frames |(simpa [Around.under,Code.envs,Code.isFrame,pushEnvs] using e.frames),e.mod,e.bs,e.bsz,e.funs,e.frf,e.hok,e.bare⟩
section
variable {X:Cx} {pins:PQ} {σ:St} {H:Hp} {s s':Shared}
def Inv.env0 (I:Inv X pins σ H s):Env0 X.prog X.w X.K X.mg X.base X.A X.stack s H:=
 ⟨I.ok.frames,I.ok.mod,I.bs,BJ I.ok.bsz I.sz,I.stack,I.stkFree,I.hok,I.bare⟩
def Inv.after (I:Inv X pins σ H s) (h:CE X.stack X.prog X.w H s Q u s'):EP X pins σ Q u s':=by obtain ⟨v,e,os,a,un,c,r,q⟩:=h;obtain ⟨f,g,d,t,o⟩:=s';obtain rfl:o=s.os:=os;exact ⟨v,e,I.call (h':=f) (g':=g) (d':=d) (t':=t) (ch:=[]) un c a (fun b z=>absurd z (by simp)),r,q⟩
end
def UC (s:Sp) (d:List V) (E:XK) (t:TA):TE:=fun a H Q=>t a H fun v h=>s (v++d) h Q E
def UD (C:Addr) (m:Str) (s:Sp) (d:List V) (E:XK) (c:TE) (t:TA):TE:=fun b H Q=>c b H fun x h=>∃a e fs,x=.ref a∧h a=some (.ins C e fs)∧fs.lookup m=none∧
 t b h fun vs f=>s (x::(vs++d)) f Q E
def UE (C:Addr) (s:Sp) (a:List V) (E:XK) (t:TA):TE:=fun b H Q=>t b H fun c h=>∀x d,h x=none→h d=none→d≠x→
 s (.ref x::(c++a)) (Av (Av h d (.own x)) x (.ins C d [])) (fun v e=>v=.non∧Q (.ref x) e) E
def Binds (K:Frag) (f:FuncData) (p:List Str) (d:List Value):Prop:=
 ∀(s:Shared) (us:List Value),K.In s.heap→(us++d).length=p.length→BindsTo s f ⟨us,[]⟩ (p.zip (us++d))
def Binds.all {K:Frag} {p:List Str} (h:∀u:List Value,u.length=p.length→bindArgs f ⟨u,[]⟩=pure (p.zip u)):Binds K f p []:=fun s u _ a=>by rw [FO] at a ⊢;exact .of_eq (h u a)
def CS (C:Fc) (X:Cx) (E:XK):Prop:=∀(p:PQ) (b:St) (H:Hp) (s:Shared) (e:Value) (a:Shared),Inv X p b H s→C X.stack H s E e a→X.xe e a
section
variable {X:Cx} {CX:Fc} {k:Nat} {f C:Addr} {fd:FuncData} {ps:List Str} {sp:Sp} {dvs:List V} {ds:List Value} {E:XK} {x m:Str} {p pos apos:Pos} {e o:Expr} {es:List Expr} {ta:TE} {t:TA}
def L0 {c:St} (F:wz X.prog X.w X.K X.mg X.base CX k f fd ps sp) (g:wm k X.A) (i:Binds X.K fd ps ds) (j:Vals dvs ds) (l:CS CX X E)
 (I:Inv X a c H s) (r:Vals vs us) (h:sp (vs++dvs) H Q E):wpAny (model X.prog X.w) X.A (call (.ref f) us) (EP X a c Q) X.xe s:=by
 have d:Vals (vs++dvs) (us++ds):=r.append j;have n:(us++ds).length=ps.length:=by rw [←d.length];exact F.len _ _ _ _ h
 refine wpAny_call (codeAny_mono (F.run X.A X.stack s H ⟨us,[]⟩ (us++ds) (vs++dvs) Q E g I.env0 (i s us I.kIn n) d h) fun r q b=>?_);cases r with
 |error e=>exact l a c H s e q I b
 |ok v=>
  cases v with
  |ret u=>exact I.after b
  |next=>exact False.elim b
  |brk=>exact False.elim b
  |cont=>exact False.elim b
def dA (F:wz X.prog X.w X.K X.mg X.base CX k f fd ps sp) (d:wm k X.A) (g:Gl X x) (j:X.mg x=some (.ref f)) (hk:keepIn X.K (.ref f)=true) (l:Binds X.K fd ps ds) (n:Vals dvs ds) (u:CS CX X E)
 (v:PA X (e::es) t) (b:(x==("__debug__":Str))=false:=by decide) (w:starEach (e::es) X.env=(false,eval e X.env)::starEach es X.env:=by rfl) (c:(backTo pos (starEach es X.env)).any (·.1)=false:=by rfl):
 PE X (.Call (.Name x p) (e::es) [] pos) (UC sp dvs E t):=by
 intro a s y H Q I h;refine wpAny_Call_Name_kw (Gj I g j ?_ b);refine callWith_K (h₀:=X.base) I.ok.mod.kin hk (Ap (v pos a s y H _ I h) ?_) w c;rintro z A ⟨B,G,i,r,q⟩;refine ⟨i.kIn,?_⟩;exact L0 F d l n u i r q
def dB (F:wz X.prog X.w X.K X.mg X.base CX k f fd ps sp) (c:wm k X.A) (d:Gl X x) (g:X.mg x=some (.ref f)) (hk:keepIn X.K (.ref f)=true) (i:Binds X.K fd ps ds) (j:Vals dvs ds) (l:CS CX X E)
 (a:(x==("__debug__":Str))=false:=by decide):PE X (.Call (.Name x p) [] [] pos) (UC sp dvs E LZ):=by
 intro b s n H Q I h;refine wpAny_Call_Name_kw (Gj I d g ?_ a);exact callWith_K0 I.kIn hk (L0 (us:=[]) F c i j l I .nil h)
def dC {i:Sem Bool} (A:PE X o ta) (c:Cls X.K C) (j:LY X.K C m f) (F:wz X.prog X.w X.K X.mg X.base CX k f fd ps sp) (B:wm k X.A) (G:Binds X.K fd ps ds) (J:Vals dvs ds) (L:CS CX X E) (M:PA X (e::es) t)
 (d:starEach (e::es) X.env=(false,eval e X.env)::starEach es X.env:=by rfl) (g:(backTo pos (starEach es X.env)).any (·.1)=false:=by rfl)
 (N:eval (.Call (.Attribute o m apos) (e::es) [] pos) X.env=(do
  let n ←eval o X.env
  standAt apos.atName
  let (f,first) ←holding [n] (getMethod n m i)
  callWith pos f first (backTo pos (starEach (e::es) X.env)) (backToKw pos (keywordEach [] X.env))):=by rfl):
 PE X (.Call (.Attribute o m apos) (e::es) [] pos) (UD C m sp dvs E ta t):=by
 intro b s v H Q I h;refine methodCall_KW (pl:=i) (Ap (A b s v H _ I h) fun u O z=>?_) N;obtain ⟨x,P,w,R,a,Y,fs,ex,S,l,q⟩:=z;subst ex;obtain rfl:u=Value.ref a:=R;refine OM w S c j l ?_;refine callWith_K (first:=[.ref a]) (h₀:=X.base) I.ok.mod.kin j.kp (Ap (M pos b O v P _ w q) ?_) d g;rintro T Z ⟨U,H2,y,r,W⟩;refine ⟨y.kIn,?_⟩;exact L0 (us:=.ref a::T) (vs:=.ref a::U) F B G J L y (.cons rfl r) W
def dD {d:Sem Bool} (n:PE X o ta) (c:Cls X.K C) (g:LY X.K C m f) (F:wz X.prog X.w X.K X.mg X.base CX k f fd ps sp) (r:wm k X.A) (v:Binds X.K fd ps ds) (w:Vals dvs ds) (y:CS CX X E)
 (A:eval (.Call (.Attribute o m apos) [] [] pos) X.env=(do
  let j ←eval o X.env
  standAt apos.atName
  let (f,first) ←holding [j] (getMethod j m d)
  callWith pos f first (backTo pos (starEach [] X.env)) (backToKw pos (keywordEach [] X.env))):=by rfl):
 PE X (.Call (.Attribute o m apos) [] [] pos) (UD C m sp dvs E ta LZ):=by
 intro b s B H Q I h;refine methodCall_KW (pl:=d) (Ap (n b s B H _ I h) fun u L z=>?_) A;obtain ⟨x,M,i,G,a,N,fs,ex,J,l,q⟩:=z;subst ex;obtain rfl:u=Value.ref a:=G;refine OM i J c g l ?_;exact callWith_K0 (first:=[.ref a]) i.kIn g.kp (L0 (us:=[.ref a]) (vs:=[.ref a]) F r v w y i (.cons rfl .nil) q)
structure Mk (K:Frag) (C f:Addr):Prop where
 makes:makesIn K C=true
 init:findIn K (.ref C) "__init__"=some (some (.ref f))
 fn:isFn K (.ref f)=true
 kp:keepIn K (.ref C)=true
def UF {c:St} {H:Hp} {Q:VK} (M:Mk X.K C f) (F:wz X.prog X.w X.K X.mg X.base CX k f fd ps sp) (n:wm (k+1) X.A) (q:Binds X.K fd ps ds) (w:Vals dvs ds)
 (y:CS CX X E) (I:Inv X a c H s) (r:Vals g us)
 (h:∀x d,H x=none→H d=none→d≠x→sp (.ref x::(g++dvs)) (Av (Av H d (.own x)) x (.ins C d [])) (fun v z=>v=.non∧Q (.ref x) z) E):
 wpAny (model X.prog X.w) X.A (call (.ref C) us) (EP X a c Q) X.xe s:=by
 have j:=h (s.heap.objs.size+1) s.heap.objs.size (I.hok.fresh (IS _)) (I.hok.fresh (AK _)) (BX (IM _));have i:=Inv.made (C:=C) I;have l:Vals (V.ref (s.heap.objs.size+1)::(g++dvs)) (Value.ref (s.heap.objs.size+1)::(us++ds)):=.cons rfl (r.append w);have A:(Value.ref (s.heap.objs.size+1)::us++ds).length=ps.length:=by have e:=l.length;rw [F.len _ _ _ _ j] at e;exact e.symm
 refine wpAny_call (cW (f:=f) I.kIn M.makes M.init (beq_iff_eq.mp M.fn) (codeAny_mono (F.run _ X.stack _ _ ⟨Value.ref (s.heap.objs.size+1)::us,[]⟩ (Value.ref (s.heap.objs.size+1)::(us++ds)) _ _ E (n.make C us [])
  (i.env0.make C us []) (q _ (Value.ref (s.heap.objs.size+1)::us) i.kIn A) l j) fun r B b=>?_))
 cases r with
 |error e=>exact y a c _ _ e B i b
 |ok G=>
  cases G with
  |ret u=>obtain ⟨v,J,L,N,O,P⟩:=i.after b;subst O;exact ⟨N,⟨V.ref (s.heap.objs.size+1),J,L,rfl,P⟩⟩
  |next=>exact False.elim b
  |brk=>exact False.elim b
  |cont=>exact False.elim b
def dE (M:Mk X.K C f) (F:wz X.prog X.w X.K X.mg X.base CX k f fd ps sp) (d:wm (k+1) X.A) (g:Gl X x) (j:X.mg x=some (.ref C)) (l:Binds X.K fd ps ds) (n:Vals dvs ds) (u:CS CX X E)
 (v:PA X (e::es) t) (b:(x==("__debug__":Str))=false:=by decide) (w:starEach (e::es) X.env=(false,eval e X.env)::starEach es X.env:=by rfl) (c:(backTo pos (starEach es X.env)).any (·.1)=false:=by rfl):
 PE X (.Call (.Name x p) (e::es) [] pos) (UE C sp dvs E t):=by
 intro a s y H Q I h;refine wpAny_Call_Name_kw (Gj I g j ?_ b);refine callWith_K (h₀:=X.base) I.ok.mod.kin M.kp (Ap (v pos a s y H _ I h) ?_) w c;rintro z A ⟨B,G,i,r,q⟩;refine ⟨i.kIn,?_⟩;exact UF M F d l n u i r q
def dF (M:Mk X.K C f) (F:wz X.prog X.w X.K X.mg X.base CX k f fd ps sp) (b:wm (k+1) X.A) (c:Gl X x) (d:X.mg x=some (.ref C)) (g:Binds X.K fd ps ds) (i:Vals dvs ds) (j:CS CX X E)
 (hdb:(x==("__debug__":Str))=false:=by decide):PE X (.Call (.Name x p) [] [] pos) (UE C sp dvs E LZ):=by
 intro a s l H Q I h;refine wpAny_Call_Name_kw (Gj I c d ?_ hdb);exact callWith_K0 I.kIn M.kp (UF (us:=[]) M F b g i j I .nil h)
end
structure Fd (N P:List Str) (sc:Scope):Prop where
 kind:sc.kind=.function
 co:sc.isCoroutine=false
 gen:sc.isGenerator=false
 nd:N.Nodup
 pre:N.take P.length=P
 par:∀x∈P,sc.names.lookup x=some .local∨sc.names.lookup x=some .cell
 nofree:∀y∈sc.names,y.2≠.free
def UG {kindOf:Str→Option NameKind} {x:Str}:∀{binds:List (Str×Value)} {m:Str→Option Value},(∀v,(x,v)∉binds)→bindL kindOf binds m x=m x
 |[],_,_=>rfl
 |(n,v)::r,m,h=>by
  unfold bindL;rw [UG fun w a=>h w (A2 _ a)];split
  ·have:x≠n:=by rintro rfl;exact h v AX
   simp [this]
  ·rfl
def UH {kindOf:Str→Option NameKind} {x:Str}:∀{binds:List (Str×Value)} {m:Str→Option Value},(∀v,(x,v)∉binds)→bindC kindOf binds m x=m x
 |[],_,_=>rfl
 |(n,v)::r,m,h=>by
  unfold bindC;rw [UH fun w a=>h w (A2 _ a)];split
  ·rfl
  ·have:x≠n:=by rintro rfl;exact h v AX
   simp [this]
def ON {kindOf:Str→Option NameKind}:∀{P:List Str} {a:List Value} {i:Nat} {m:Str→Option Value},P.Nodup→P[i]?=some x→a[i]?=some v→kindOf x=some .local→
 bindL kindOf (P.zip a) m x=some v
 |[],_,_,_,_,h,_,_=>by simp at h
 |_::_,[],_,_,_,_,h,_=>by simp at h
 |p::P,w::a,0,m,n,b,c,hk=>by
  simp at b c;subst b;subst c
  show bindL kindOf ((p,w)::P.zip a) m p=_
  unfold bindL;rw [UG fun v d=>(qbH.mp n).1 (Lq d).1,if_pos hk];simp
 |p::P,w::a,i+1,m,n,b,c,hk=>by
  show bindL kindOf ((p,w)::P.zip a) m x=_
  unfold bindL;exact ON (i:=i) (qbH.mp n).2 (by simpa using b) (by simpa using c) hk
def OO {kindOf:Str→Option NameKind}:∀{P:List Str} {a:List Value} {i:Nat} {m:Str→Option Value},P.Nodup→P[i]?=some x→a[i]?=some v→kindOf x≠some .local→
 bindC kindOf (P.zip a) m x=some v
 |[],_,_,_,_,h,_,_=>by simp at h
 |_::_,[],_,_,_,_,h,_=>by simp at h
 |p::P,w::a,0,m,n,b,c,hk=>by
  simp at b c;subst b;subst c
  show bindC kindOf ((p,w)::P.zip a) m p=_
  unfold bindC;rw [UH fun v d=>(qbH.mp n).1 (Lq d).1,if_neg hk];simp
 |p::P,w::a,i+1,m,n,b,c,hk=>by
  show bindC kindOf ((p,w)::P.zip a) m x=_
  unfold bindC;exact OO (i:=i) (qbH.mp n).2 (by simpa using b) (by simpa using c) hk
def start (N:List Str) (v:List V):St:=v.map some++List.replicate (N.length - v.length) none
noncomputable def CT (C:Fc) (P:Program) (w:World) (K:Frag) (m:Str→Option Value) (c:Heap) (N:List Str) (q:Str) (a:Scope) (f:Addr) (d:Value) (A:Around) (o:List Env) (s:Shared) (H:Hp) (E:XK):Cx where
 prog:=P
 w:=w
 K:=K
 mg:=m
 base:=c
 A:=A.deeper (envOfC q a s.heap.objs.size f d)
 N:=N
 s₀:=s
 H₀:=H
 env:=envOfC q a s.heap.objs.size f d
 outer:=o
 stack:=envOfC q a s.heap.objs.size f d::o
 ex:=[]
 calm:=true
 fn:=fun _=>true
 pn:=[]
 xe:=fun e g=>wpAny (model P w) (A.deeper (envOfC q a s.heap.objs.size f d)) (leaving (envOfC q a s.heap.objs.size f d) e) (fun _ b=>C o H s E e b) (fun h b=>C o H s E h b) g
def L1 {s:Scope} {n:Nat} (h:s.names.lookup x=some .cell):∃c,(cellsFrom n s.names []).lookup x=some c:=by have q:=cellsFrom_some s.names n [] (.inl h);exact qbX.mp q
def dG {R:Fc} {K:Frag} {N t:List Str} {d:Scope} {A:Around} {s T:Shared} {B:List V} 
 (S:Fd N t d) (W:A.handled=none) (m:Env0 P w K O l A o s H) (hl:B.length=t.length) (r:Vals B Q)
 (x:InCallC s s.heap.objs.size (bindL (envOfC g d s.heap.objs.size f J).kindOf (t.zip Q) fun _=>none) (cellsFrom (s.heap.objs.size+1) d.names []) (bindC (envOfC g d s.heap.objs.size f J).kindOf (t.zip Q) fun _=>none) T):
 Inv (CT R P w K O l N g d f J A o s H E) [] (start N B) H T:=by
 have X:t.length≤N.length:=by have:=congrArg List.length S.pre;rw [Ln] at this;omega
 obtain ⟨L,tk,rfl,hk⟩:=x.done;have C:∀b:Addr,b∉(CT R P w K O l N g d f J A o s H E).ex:=fun b z=>absurd (show b∈([]:List Addr) from z) (by simp);refine ⟨⟨m.mod,S.kind,rfl,rfl,AK _,fun y z c L j=>?_,fun y F=>?_,fun y c _ h=>?_,fun _=>W,Around.frames_deeper m.frames,.inr ⟨rfl,rfl⟩,fun b z=>absurd z (C b),m.bs,m.bsz,fun b _ _=>C b,fun b z=>absurd z (C b),m.funs,m.frf⟩,
  rfl,m.bare,Un.kept hk,⟨_,x.toInCall.ns,fun i y v L j h3=>?_⟩,fun y c h=>⟨_,x.cell y c h⟩,m.hok.fresh (AK _),fun y c h=>?_,fun p G=>absurd (show p∈([]:PQ) from G) (by simp),m.hok.kept hk,?_⟩
 ·exact name_of_addr x.apart (PySem.mem_of_lookup L) (PySem.mem_of_lookup j)
 ·have F:d.names.lookup y=some .cell∨d.names.lookup y=some .free:=F;rcases F with F |F
  ·exact L1 F
  ·exact absurd rfl (S.nofree _ (PySem.mem_of_lookup F))
 ·exact IQ (x.above y c (PySem.mem_of_lookup h))
 ·have M:i<B.length:=by
   unfold start at j
   by_cases M:i<B.length
   ·exact M
   ·rw [IF (by simpa using M)] at j;rw [N5] at j;split at j<;>cases j
  have Y:B[i]?=some v:=by
   unfold start at j;rw [EH (by simpa using M),Cg] at j;cases e:B[i]? with
   |none=>rw [e] at j;cases j
   |some a=>rw [e] at j;cases j;rfl
  obtain ⟨u,U,Z⟩:=r.get Y;have G:t[i]?=some y:=by rw [←S.pre,N4 (by omega)];exact L
  have I:t.Nodup:=by rw [←S.pre];exact S.nd.sublist (List.take_sublist _ _)
  refine ⟨u,Z,?_⟩;rcases S.par y (FM G) with k |k
  ·exact .inl ⟨k,ON I G U k⟩
  ·obtain ⟨c,e⟩:=L1 (n:=s.heap.objs.size+1) k;refine .inr ⟨.inl k,c,e,?_⟩;have q:=x.cell y c e;rw [OO I G U (by show d.names.lookup y≠_;rw [k];decide)] at q;exact q
 ·exact m.hok.fresh (IQ (x.above y c (PySem.mem_of_lookup h)))
 ·unfold start
  show _=N.length
  rw [DE,Ci,List.length_replicate];omega
def dH {O:Fc} {K:Frag} {k:Nat} {f:Addr} {p:Arguments} {i:List Stmt} {dV kV F pm g ct oc:Value} {an od:Option Addr} 
 {U:Array (Option Value)} {N T:List Str} {W:Sp} (lk:K.lookup f=some ⟨oc,od,.func (fnOf name d p i a dV kV F pm an g ct),U⟩) (X:codeIn K g d=true) (S:Fd N T a)
 (len:∀j H Q E,W j H Q E→j.length=T.length)
 (z:∀(A:Around) (c:List Env) (s:Shared) (H:Hp) (j:List V) (Q:VK) (E:XK),wm k (A.deeper (envOfC d a s.heap.objs.size f g))→W j H Q E→
  ∃t,DF (CT O P w K R h N d a f g A c s H E) i t∧t {nx:=fun _ m=>Q .non m,rt:=Q} (start N j) H):
 wz P w K R h O (k+1) f (fnOf name d p i a dV kV F pm an g ct) T W:=by
 refine ⟨len,fun A c s H args us j Q E Y G hb r L=>?_⟩;have hl:=len _ _ _ _ L;have KX:K.In s.heap:=G.mod.kin.keeps fun b o e=>(G.bs b o e).1;have Z:s.heap.NoLimit:=G.mod.nolimit.keeps fun b o e=>(G.bs b o e).1;have B:∀y∈T.zip us,a.names.lookup y.1=some .local∨(a.names.lookup y.1=some .cell∧((cellsFrom (s.heap.objs.size+1) a.names []).lookup y.1).isSome=true):=fun M hy=>by
  obtain ⟨n,v⟩:=M;rcases S.par n (Lq hy).1 with q |q
  ·exact .inl q
  ·exact .inr ⟨q,cellsFrom_some _ _ _ (.inl q)⟩
 refine codeAny_call_function Y.depth (KX _ _ lk) rfl S.co S.gen rfl (codeRec_of KX X) (hb _ _ _ _ ?_);refine wpAny_newFunctionEnv_cells S.kind B fun env he s1 x=>?_;subst he;refine ⟨Z.keeps x.toInCall.keep,codeAny_func ?_⟩;obtain ⟨t,ht,hq⟩:=z A c s H j Q E (Y.deeper _) L;have I:Inv (CT O P w K R h N d a f g A c s H E) [] (start N j) H s1:=dG S Y.hd G hl r x;refine Bm (ht [] s1 (start N j) H _ I hq) (fun fl s' C=>?_) fun e s' C=>C;have AQ:∀{l:St} {m:Hp} {v:V} {u:Value},Inv (CT O P w K R h N d a f g A c s H E) [] l m s'→RelV v u→Q v m→CE c P w H s Q u s':=
  fun {l m v u} J rv q=>⟨v,m,J.os,J.bare,J.base,J.hok,rv,q⟩
 cases fl with
 |ret u=>obtain ⟨v,l,m,J,rv,q⟩:=C;exact AQ J rv q
 |next=>obtain ⟨l,m,J,q⟩:=C;exact AQ (v:=V.non) (u:=Value.none) J rfl q
 |brk=>obtain ⟨_,_,_,q⟩:=C;exact False.elim q
 |cont=>obtain ⟨_,_,_,q⟩:=C;exact False.elim q
section
variable {X:Cx} {x:Str} {p pos:Pos} {e:Expr} {es:List Expr} {t:TA} {id T:String} {r:List V→Hp→VK→Prop}
def UI (r:List V→Hp→VK→Prop) (t:TA):TE:=fun a H Q=>t a H fun v h=>r v h Q
def dI (f:De X (.builtin id) r) (g:Gl X x) (i:X.mg x=none) (j:bootBuiltins x=some (.builtin id)) (k:PA X (e::es) t) (l:x≠"__name__":=by decide) (b:(x==("__debug__":Str))=false:=by decide)
 (m:starEach (e::es) X.env=(false,eval e X.env)::starEach es X.env:=by rfl) (c:(backTo pos (starEach es X.env)).any (·.1)=false:=by rfl):PE X (.Call (.Name x p) (e::es) [] pos) (UI r t):=by
 intro a s d H Q I h;refine wpAny_Call_Name_kw (Hg I g i j ?_ l b);exact PyProof.Rows.callWith_builtin1 (Ap (k pos a s d H _ I h) fun u n z=>by obtain ⟨v,o,q,w,y⟩:=z;exact (f a n d o v u Q q w y)) m c
def dJ (f:De X (.type T) r) (g:Gl X x) (i:X.mg x=none) (j:bootBuiltins x=some (.type T)) (k:PA X (e::es) t) (l:x≠"__name__":=by decide) (b:(x==("__debug__":Str))=false:=by decide)
 (m:starEach (e::es) X.env=(false,eval e X.env)::starEach es X.env:=by rfl) (c:(backTo pos (starEach es X.env)).any (·.1)=false:=by rfl):PE X (.Call (.Name x p) (e::es) [] pos) (UI r t):=by
 intro a s d H Q I h;refine wpAny_Call_Name_kw (Hg I g i j ?_ l b);exact PyProof.Rows.callWith_type1 (Ap (k pos a s d H _ I h) fun u n z=>by obtain ⟨v,o,q,w,y⟩:=z;exact (f a n d o v u Q q w y)) m c
end
end L2
namespace HT
open PySem PyProof.Rows
section
variable {prog:Program} {w:World} {A:Around} {E:Value→Shared→Prop} {s:Shared}
def cat_tup {v a:List Value} {Q:Value→Shared→Prop} (y:IsTup s.heap t v.toArray) (z:IsTup s.heap b a.toArray) (l:v≠[])
 (B:a=[]→Q (.ref t) s) (C:a≠[]→Q (.ref s.heap.objs.size) {s with heap:=s.heap.push {cls:=.type "tuple",data:=.seq (v++a).toArray}})
 (k:v.length+a.length≤sizeLine):wpAny (model prog w) A (binaryOp .Add (.ref t) (.ref b)) Q E s:=by
 obtain ⟨⟨F,m,o,p⟩,i,q,n,r⟩:=id y;obtain ⟨⟨u,d,data2,c⟩,h,f,x,g⟩:=id z;simp only at q r f g;subst q r f g;have e:v.toArray++a.toArray=(v++a).toArray:=by simp
 by_cases j:a=[]
 ·exact concat_meets ⟨_,i,rfl⟩ ⟨_,h,rfl⟩ noFill_tuple_add seq_tuple_add PySem.F.slot_tuple_add PySem.F.entry_tuple_add (PySem.F.args_tuple_add_2 _ _)
   (tuple_addW1 t b v.toArray a.toArray n x m d p c (by simpa using l) (by simp [j])) ⟨i,h,B j⟩
 ·refine concat_meets ⟨_,i,rfl⟩ ⟨_,h,rfl⟩ noFill_tuple_add seq_tuple_add PySem.F.slot_tuple_add PySem.F.entry_tuple_add (PySem.F.args_tuple_add_2 _ _)
   (tuple_addW2 t b v.toArray a.toArray n x m d p c (by simpa using l) (by simpa using j) (by rw [Bh,Bh];exact k)) ⟨i,h,?_⟩
  rw [e];exact C j
def sIx (n d:Nat):Option Int→Nat
 |none=>d
 |some v=>if v<0 then (v+(n:Int)).toNat else min v.toNat n
def sIx_none (n d:Nat):sIx n d none=d:=rfl
def sIx_nat (n d k:Nat):sIx n d (some (k:Int))=min k n:=by
 show (if (k:Int)<0 then ((k:Int)+(n:Int)).toNat else min (k:Int).toNat n)=min k n
 rw [if_neg (by omega),Ll]
def dK (n d:Nat) (a:d≤n) (o:Option Int):sIx n d o≤n:=by
 cases o with
 |none=>exact a
 |some v=>
  show (if v<0 then (v+(n:Int)).toNat else min v.toNat n)≤n
  by_cases h:v<0
  ·rw [if_pos h];omega
  ·rw [if_neg h];exact Nat.min_le_right _ _
def UJ (v:Int) (n d:Nat):(if v<0 then max (v+(n:Int)) 0 else min v (n:Int))=((sIx n d (some v):Nat):Int):=by
 show (if v<0 then max (v+(n:Int)) 0 else min v (n:Int))=(((if v<0 then (v+(n:Int)).toNat else min v.toNat n):Nat):Int)
 by_cases h:v<0
 ·simp only [if_pos h];omega
 ·simp only [if_neg h];omega
def dM (lo h:Option Int) (n:Nat):Builtin.Slice.sliceAdjust lo h 1 (n:Int)=(((sIx n 0 lo:Nat):Int),((sIx n n h:Nat):Int)):=by
 have a:¬((1:Int)<0):=by omega
 unfold Builtin.Slice.sliceAdjust;simp only [a,if_false];refine Prod.ext ?_ ?_
 ·cases lo with
  |none=>rfl
  |some v=>exact UJ v n 0
 ·cases h with
  |none=>rfl
  |some v=>exact UJ v n n
def dN (i j:Nat):Builtin.Slice.slicePlaces (i:Int) (j:Int) 1=j - i:=by
 unfold Builtin.Slice.slicePlaces;have h:(1:Int)>0:=by omega
 simp only [h,if_true,Int.ediv_one]
 split<;>omega
def UK {o:Option Int} {Q:Option Int→Shared→Prop} (p:IsPart v o) (h:Q o s):wpAny (model prog w) A (Builtin.Slice.slicePartIndex v) Q E s:=by
 cases p with
 |none=>exact slicePart_none h
 |int i t=>exact slicePart_int h
def sliceApplied_gen {lo a:Option Int} {n:Nat} {Q:Int×Int×Nat→Shared→Prop} (f:s.heap.IsSliceOf e v d .none) (p:IsPart v lo) (g:IsPart d a)
 (h:Q (((sIx n 0 lo:Nat):Int),1,sIx n n a - sIx n 0 lo) s):wpAny (model prog w) A (Builtin.Slice.sliceApplied (.ref e) (pure (n:Int))) Q E s:=by
 obtain ⟨os,b,i,c⟩:=id f;unfold Builtin.Slice.sliceApplied Builtin.Slice.sliceFields;refine Aj (Aj (wpAny_field b c (x:=v) rfl (Aj (wpAny_field b c (x:=d) rfl (Aj (wpAny_field b c (x:=.none) rfl (AD ?_)))))));refine Aj (slicePart_none ?_)
 show wpAny _ _ (if ((1:Int)==0)=true then _ else _) _ _ s
 rw [if_neg (by decide)];refine Aj (UK p (Aj (UK g (Aj (AD ?_)))))
 show wpAny _ _ (match Builtin.Slice.sliceAdjust lo a 1 (n:Int) with |(lo,a)=>pure (lo,(1:Int),Builtin.Slice.slicePlaces lo a 1)) _ _ s
 rw [dM lo a n]
 show wpAny _ _ (pure (((sIx n 0 lo:Nat):Int),(1:Int),Builtin.Slice.slicePlaces ((sIx n 0 lo:Nat):Int) ((sIx n n a:Nat):Int) 1)) _ _ s
 rw [dN];exact AD h
def dO (a:Array Value) (i k:Nat):((List.range k).filterMap fun (m:Nat)=>a[((i:Int)+(m:Int)*1).toNat]?).toArray=((a.toList.drop i).take k).toArray:=by
 have e:(fun (m:Nat)=>a[((i:Int)+(m:Int)*1).toNat]?)=fun m=>a[i+m]?:=by
  funext m;have:((i:Int)+(m:Int)*1).toNat=i+m:=by omega
  rw [this]
 rw [e];have:=pick_run a i k;rw [List.filterMap_map] at this;have b:((fun x=>a[x]?)∘fun x=>i+x)=fun m=>a[i+m]?:=rfl;rw [b] at this;rw [this]
def getItem_tuple_cut {i:Array Value} {lo b:Option Int} {Q:Value→Shared→Prop} (c:IsTup s.heap t i) (l:s.heap.IsSliceOf d v k .none) (p:IsPart v lo) (n:IsPart k b)
 (o:¬(sIx i.size 0 lo=0∧sIx i.size i.size b=i.size))
 (h:Q (.ref s.heap.objs.size) {s with heap:=s.heap.push {cls:=.type "tuple",data:=.seq ((i.toList.drop (sIx i.size 0 lo)).take (sIx i.size i.size b - sIx i.size 0 lo)).toArray}})
 (r:i.size≤sizeLine):wpAny (model prog w) A (getItem (.ref t) (.ref d)) Q E s:=by
 have a:sizeOk (.seq ((i.toList.drop (sIx i.size 0 lo)).take (sIx i.size i.size b - sIx i.size 0 lo)).toArray):=by
  show ((i.toList.drop (sIx i.size 0 lo)).take (sIx i.size i.size b - sIx i.size 0 lo)).toArray.size≤sizeLine
  rw [Bh,Ln,Lo,Array.length_toList];omega
 have x:sIx i.size i.size b≤i.size:=dK _ _ (AK _) b;obtain ⟨os,e,f,u⟩:=id l;have g:s.TypeIs (.ref d) "slice":=⟨os,e,f⟩
 unfold getItem
 try with_reducible refine DN ?_
 first |refine Aj (AD ?_) |skip
 refine Aj (wpAny_sequenceKey c.typeIs (by decide) ?_);refine Aj (wpAny_callSpecial?_slot (name:=Str.ofString "__getitem__") c.typeIs PyProof.Rows.slot_tuple_getitem
  (wpAny_call_entry PyProof.Rows.slot_tuple_getitem c.typeIs entry_tuple_getitem ?_ (args_tuple_getitem _ _)))
 show wpAny _ _ (Builtin.Tuple.tupleItemsOf (.ref t) >>=_) _ _ s
 refine Aj (tupleItemsOf_ c ?_);refine Aj (wpAny_typeOf g ?_);rw [if_pos (by decide)];refine Aj (sliceApplied_gen l p n ?_);have j:¬((((sIx i.size 0 lo:Nat):Int)==0&&(1:Int)==1&&(sIx i.size i.size b - sIx i.size 0 lo)==i.size)=true):=by intro q;rw [CP,CP] at q;have y:((sIx i.size 0 lo:Nat):Int)=0:=eq_of_beq q.1.1;have z:sIx i.size i.size b - sIx i.size 0 lo=i.size:=eq_of_beq q.2;exact o ⟨by omega,by omega⟩
 show wpAny _ _ (if (((sIx i.size 0 lo:Nat):Int)==0&&(1:Int)==1&&(sIx i.size i.size b - sIx i.size 0 lo)==i.size)=true then _ else _) _ _ s
 rw [if_neg j,dO]
 first
  |exact Aj (m:=Builtin.Tuple.tupleExact _) (EJ (AD ⟨_,rfl,AD h⟩) a)
  |exact Aj (m:=Builtin.Tuple.tupleExact _) (EJ (Aj (AD (AD ⟨_,rfl,AD h⟩))) a)
  |exact Aj (Aj (m:=Builtin.Tuple.tupleExact _) (EJ (AD (AD ⟨_,rfl,AD h⟩)) a))
  |exact Aj (Aj (m:=Builtin.Tuple.tupleExact _) (EJ (AD ⟨_,rfl,AD h⟩) a))
end
end HT
namespace L2
open PySem PySem.Spec PyProof.Rows
abbrev TO:=St→Hp→(Option Int→Hp→Prop)→Prop
def PO (X:Cx) (e:Option Expr) (t:TO):Prop:=
 ∀(p:PQ) (s:Shared) (a:St) (H:Hp) (Q:Option Int→Hp→Prop),Inv X p a H s→t a H Q→
  wpAny (model X.prog X.w) X.A (evalPart e X.env) (fun u b=>∃o h,Inv X p a h b∧IsPart u o∧Q o h) X.xe s
def dP:TO:=fun _ H Q=>Q none H
def dQ (t:TE):TO:=fun a H Q=>t a H fun x h=>∃i,x=.int i∧Q (some i) h
section
variable {X:Cx} {e:Expr} {te:TE} {lo hi:Option Expr} {tl th:TO} {pos p2:Pos}
def dR:PO X none dP:=by intro p s a H Q I h;rw [evalPart_none];exact AD ⟨none,H,I,.none,h⟩
def dS (h:PE X e te):PO X (some e) (dQ te):=by intro p s a H Q I b;rw [evalPart_some];refine Ap (h p s a H _ I b) fun u g z=>?_;obtain ⟨x,c,d,r,f⟩:=z;obtain ⟨i,rfl,q⟩:=f;obtain ⟨t,rfl⟩:=r;exact ⟨some i,c,d,.int i t,q⟩
def SlR (X:Cx) (r:V→Option Int→Option Int→Hp→VK→Prop):Prop:=
 ∀(p:PQ) (s:Shared) (a:St) (H:Hp) (x:V) (v b c:Value) (lo hi:Option Int) (d:Addr) (Q:VK),Inv X p a H s→RelV x v→s.heap.IsSliceOf d b c .none→IsPart b lo→IsPart c hi→r x lo hi H Q→
  ∃T id,typeLookup (.type T) "__getitem__"=pure (some (.builtin id))∧s.TypeIs v T∧wpAny (model X.prog X.w) X.A (getItem v (.ref d)) (EP X p a Q) X.xe s
def SlR.or {r a:V→Option Int→Option Int→Hp→VK→Prop} (h:SlR X r) (l:SlR X a):SlR X (fun x lo hi H Q=>r x lo hi H Q∨a x lo hi H Q):=by
 intro p s b H x v c d lo hi f Q I g i j k q;rcases q with q |q
 ·exact h p s b H x v c d lo hi f Q I g i j k q
 ·exact l p s b H x v c d lo hi f Q I g i j k q
def dT (r:V→Option Int→Option Int→Hp→VK→Prop) (te:TE) (tl th:TO):TE:=fun a H Q=>te a H fun x h=>tl a h fun l b=>th a b fun u c=>r x l u c Q
def UL {r:V→Option Int→Option Int→Hp→VK→Prop} (j:SlR X r) (k:PE X e te) (m:PO X lo tl) (n:PO X hi th):PE X (.Subscript e (.Slice lo hi none p2) pos) (dT r te tl th):=by
 intro p s c H Q I h;refine Subscript_ (Ap (k p s c H _ I h) fun v o z=>?_);obtain ⟨x,t,w,y,A⟩:=z;refine wpAny_Slice (Ap (m p o c t _ w A) ?_);rintro f B ⟨l,C,E,F,G⟩;refine Ap (n p B c C _ E G) fun g a d=>?_;obtain ⟨u,i,J,L,M⟩:=d;rw [evalPart_none];refine AD ?_;have N:Inv X p c i {a with heap:=a.heap.push {cls:=.type "slice",data:=.fields #[f,g,.none]}}:=J.kept (t':=a.toks) fun b S q=>AW _ q;obtain ⟨T,id,O,P,R⟩:=j p {a with heap:=a.heap.push {cls:=.type "slice",data:=.fields #[f,g,.none]}} c i x v f g l u a.heap.objs.size Q N y (Heap.IsSliceOf.new ..) F L M
 show wpAny (model X.prog X.w) X.A (subscriptTail e (.Slice lo hi none p2) v (.ref a.heap.objs.size)) (EP X p c Q) X.xe {a with heap:=a.heap.push {cls:=.type "slice",data:=.fields #[f,g,.none]}}
 exact tail_any (ops:=[.ref a.heap.objs.size,v]) P O R (by with_unfolding_all rfl)
def Gp (x:List V) (lo hi:Option Int):List V:=(x.drop (HT.sIx x.length 0 lo)).take (HT.sIx x.length x.length hi - HT.sIx x.length 0 lo)
def UM (x:List V) (lo hi:Option Int):(Gp x lo hi).length≤x.length:=by unfold Gp;rw [Ln,Lo];omega
def dU (K:Frag):V→Option Int→Option Int→Hp→VK→Prop:=fun x lo hi H Q=>∃a b,x=.ref a∧SqT K H a b∧
 ¬(HT.sIx b.length 0 lo=0∧HT.sIx b.length b.length hi=b.length)∧∀p,H p=none→Q (.ref p) (Av H p (.tup (Gp b lo hi)))
def dW:SlR X (dU X.K):=by
 intro p s u H x v w y lo hi z Q I j k l m h;obtain ⟨a,d,rfl,n,t,q⟩:=h;cases j;obtain ⟨i,r,f,g⟩:=I.tuple n;have c:i.toArray.size=d.length:=by rw [Bh];exact r.length.symm
 refine ⟨"tuple",_,PyProof.Rows.slot_tuple_getitem.lookup,f.typeIs,?_⟩;refine HT.getItem_tuple_cut f k l m (by rw [c];exact t) ?_ (by rw [c];exact g);rw [c];refine ⟨.ref s.heap.objs.size,_,I.laid (t':=s.toks) (o:=.tup (Gp d lo hi)) (fun b A q=>AW _ q) (AK _) ?_,rfl,q _ (I.hok.fresh (AK _))⟩;exact ⟨BJ (UM d lo hi) g,_,(r.drop (HT.sIx d.length 0 lo)).take (HT.sIx d.length d.length hi - HT.sIx d.length 0 lo),IsTup.new _ _,wH.new⟩
def dX (K:Frag):R2:=fun x y H Q=>∃a b d c,x=.ref a∧y=.ref b∧SqT K H a d∧SqT K H b c∧d≠[]∧d.length+c.length≤sizeLine∧
 (c=[]→Q (.ref a) H)∧(c≠[]→∀p,H p=none→Q (.ref p) (Av H p (.tup (d++c))))
def Vals.nil_iff (r:Vals x u):u=[]↔x=[]:=by
 cases r with
 |nil=>simp
 |cons _ _=>simp
def op_catT:OpR X (binaryOp .Add) (dX X.K):=by intro p s E H x y v u Q I f g h;obtain ⟨a,b,j,k,rfl,rfl,l,m,n,d,t,A⟩:=h;cases f;cases g;obtain ⟨B,c,C,_⟩:=I.tuple l;obtain ⟨i,r,p2,_⟩:=I.tuple m;refine HT.cat_tup C p2 (fun z=>n (c.nil_iff.mp z)) (fun z=>⟨.ref a,H,I,rfl,t (r.nil_iff.mp z)⟩) (fun z=>?_) (by rw [←c.length,←r.length];exact d);refine ⟨.ref s.heap.objs.size,_,I.laid (t':=s.toks) (o:=.tup (j++k)) (fun b F q=>AW _ q) (AK _) ?_,rfl,A (fun w=>z (r.nil_iff.mpr w)) _ (I.hok.fresh (AK _))⟩;exact ⟨by rw [DE];exact d,_,c.append r,IsTup.new _ _,wH.new⟩
end
def Dy (n:Nat) (i:Int):Option Nat:=if 0≤i then (if i<n then some i.toNat else none) else if -(n:Int)≤i then some (i+n).toNat else none
def Cu {a:Type} (x:List a) (i:Int):Option a:=(Dy x.length i).bind fun j=>x[j]?
def UN {n:Nat} {i:Int} {j:Nat} (h:Dy n i=some j):seqIndex? i n=some j∧j<n∧-(n:Int)≤i∧i<n:=by
 unfold Dy at h
 by_cases b:0≤i
 ·rw [if_pos b] at h
  by_cases a:i<n
  ·rw [if_pos a] at h;have e:i.toNat=j:=Option.some.inj h;exact ⟨by rw [seqIndex_of b a,e],by omega,by omega,a⟩
  ·rw [if_neg a] at h;cases h
 ·rw [if_neg b] at h
  by_cases a:-(n:Int)≤i
  ·rw [if_pos a] at h;have e:(i+n).toNat=j:=Option.some.inj h;exact ⟨by rw [seqIndex_neg (by omega) a,e],by omega,a,by omega⟩
  ·rw [if_neg a] at h;cases h
def OP {a:Type} {x:List a} {i:Int} {v:a} (h:Cu x i=some v):∃j,seqIndex? i x.length=some j∧x[j]?=some v∧j<x.length∧-(x.length:Int)≤i∧i<x.length:=by
 unfold Cu at h;cases e:Dy x.length i with
 |none=>rw [e] at h;cases h
 |some j=>rw [e] at h;obtain ⟨b,c,d,f⟩:=UN e;exact ⟨j,b,h,c,d,f⟩
def OQ (b:Expr):Prop:=∀o i,subscripted b false o i=operate [o,i] (getItem o i)
def IxR (X:Cx) (r:R2):Prop:=
 ∀(b a:Expr) (p:PQ) (s:Shared) (c:St) (H:Hp) (x y:V) (v u:Value) (Q:VK),Inv X p c H s→RelV x v→RelV y u→r x y H Q→
  subscripted a false v u=operate [v,u] (getItem v u)→wpAny (model X.prog X.w) X.A (subscriptTail b a v u) (EP X p c Q) X.xe s
def L3 (X:Cx) (id:String) (r:V→List V→Hp→VK→Prop):Prop:=
 ∀(p:PQ) (s:Shared) (a:St) (H:Hp) (x:V) (b:List V) (v:Value) (u:List Value) (Q:VK),Inv X p a H s→RelV x v→Vals b u→r x b H Q→
  wpAny (model X.prog X.w) X.A (call (.builtin id) (v::u)) (EP X p a Q) X.xe s
section
variable {X:Cx} {a b:Expr} {ta tb:TE} {pos:Pos}
def IxR.or {r e:R2} (h:IxR X r) (k:IxR X e):IxR X (fun x y H Q=>r x y H Q∨e x y H Q):=by
 intro c d p s f H x y v u Q I g i q j;rcases q with q |q
 ·exact h c d p s f H x y v u Q I g i q j
 ·exact k c d p s f H x y v u Q I g i q j
def UO {r:R2} (c:IxR X r) (d:PE X a ta) (e:PE X b tb) (f:OQ b):PE X (.Subscript a b pos) (LU r ta tb):=by intro p s g H Q I h;exact Subscript_ (OG d e I h fun v u i x y j k l m q=>c a b p i g j x y v u Q k l m q (f _ _))
def dY (K:Frag):R2:=fun x y H Q=>∃p c i v,x=.ref p∧y=.int i∧SqL K H p c∧Cu c i=some v∧Q v H
def dZ (K:Frag):R2:=fun x y H Q=>∃p c i v,x=.ref p∧y=.int i∧SqT K H p c∧Cu c i=some v∧Q v H
def eh:R2:=fun x y H Q=>∃z i c,x=.str z∧y=.int i∧z.length≤sizeLine∧Cu z.cps.toList i=some c∧Q (.str ⟨#[c]⟩) H
def ix_list:IxR X (dY X.K):=by
 intro e f c s n H x y v u Q I C E h o;obtain ⟨p,P,i,z,rfl,rfl,F,G,q⟩:=h;cases C;obtain ⟨t,rfl⟩:=E;obtain ⟨g,r,k,R⟩:=I.list F;obtain ⟨j,d,J,S,L,M⟩:=OP G;obtain ⟨w,A,l⟩:=r.get J;have N:=r.length;have T:=Gn;have AQ:EP X c n Q w s:=⟨z,H,I,l,q⟩
 by_cases B:0≤i
 ·have m:i.toNat=j:=by rw [seqIndex_of B M] at d;exact Option.some.inj d
  exact item_listR k.isList B (by omega) (by rw [m];simpa using A) AQ o
 ·have m:(i+(g.toArray.size:Int)).toNat=j:=by rw [seqIndex_neg (by omega) L] at d;rw [Bh,←N];exact Option.some.inj d
  exact subscriptTail_builtinR (x:=w) k.isList.typeIs slot_list_getitem.lookup
   (wpAny_getItem_list_neg (Q:=fun r O=>r=w∧EP X c n Q r O) k.isList (by omega) (by rw [Bh]<;>omega) (by omega) (by rw [m];simpa using A) ⟨rfl,AQ⟩) o
def ix_tup:IxR X (dZ X.K):=by
 intro d e c s g H x y v u Q I l m h n;obtain ⟨p,L,i,z,rfl,rfl,o,A,q⟩:=h;cases l;obtain ⟨t,rfl⟩:=m;obtain ⟨B,r,k,M⟩:=I.tuple o;obtain ⟨j,C,E,N,O,P⟩:=OP A;obtain ⟨w,F,f⟩:=r.get E;have G:=r.length;have R:=Gn;have AQ:EP X c g Q w s:=⟨z,H,I,f,q⟩
 exact subscriptTail_builtinR (x:=w) k.typeIs slot_tuple_getitem.lookup
  (getItem_tuple (j:=j) (Q:=fun r J=>r=w∧EP X c g Q r J) k (by omega) (by omega) (by rw [Bh,←G];exact C) (by simpa using F) ⟨rfl,AQ⟩) n
def ei:IxR X eh:=by
 intro d e p s C H x y v u Q I r g h k;obtain ⟨z,i,c,rfl,rfl,E,l,q⟩:=h;obtain ⟨t,rfl⟩:=r;obtain ⟨F,rfl⟩:=g;obtain ⟨j,f,m,G,n,o⟩:=OP l;have w:z.cps.toList.length=z.length:=by simp [Str.length]
 rw [w] at f n o;have J:=Gn;exact tail_any (typeIs_str s z t) slot_str_getitem.lookup (getItem_str (c:=c) (by have A:decide (i < -(2^63:Int))=false:=decide_eq_false (by omega);have B:decide (i≥2^63)=false:=decide_eq_false (by omega);rw [A,B,Bool.or_false]) (by rw [f];simpa using m) ⟨.str ⟨#[c]⟩,H,I.tok _,⟨_,rfl⟩,q⟩) k
def eu (i:List Value) (n j:Nat) (u:Value):Obj.mapSeq (·.setIfInBounds j u) {cls:=.type "list",data:=.seq i.toArray n}={cls:=.type "list",data:=.seq (i.set j u).toArray n}:=by simp [Obj.mapSeq]
def Inv.lst {c:PQ} {d:St} {H:Hp} {s:Shared} {p:Addr} {xs:List V} (I:Inv X c d H s) (h:H p=some (.lst xs)):
 ∃(i:List Value) (n:Nat),Vals xs i∧s.heap.get? p=some {cls:=.type "list",data:=.seq i.toArray n}∧xs.length≤sizeLine:=by
 obtain ⟨z,i,n,r,e⟩:=I.hok p _ h;exact ⟨i,n,r,e,z⟩
def Inv.lstUpd {j:St} {H:Hp} {s:Shared} {p:Addr} {l y:List V} {d i:List Value} {n g:Nat} {f:Obj→Obj} (I:Inv X c j H s) (h:H p=some (.lst l))
 (m:s.heap.get? p=some {cls:=.type "list",data:=.seq d.toArray n}) (k:f {cls:=.type "list",data:=.seq d.toArray n}={cls:=.type "list",data:=.seq i.toArray g}) (r:Vals y i) (o:y.length≤sizeLine) (t:Nat):
 Inv X c j (Av H p (.lst y)) {s with heap:=s.heap.update p f,toks:=t}:=by
 have e:(s.heap.update p f).get? p=some {cls:=.type "list",data:=.seq i.toArray g}:=by rw [Oa f m (by rw [k]<;>rfl),k]
 refine I.write (x:=p) (e:=p) (by rw [h];trivial) (.inl rfl) (fun b u v q=>(N9 _ _ (Ne.symm v)).trans q) ⟨_,e⟩ ?_;exact ⟨o,i,g,r,e⟩
def ez:V→V→V→Hp→(Hp→Prop)→Prop:=fun o i v H Q=>∃p x k j,o=.ref p∧i=.int k∧H p=some (.lst x)∧Dy x.length k=some j∧Q (Av H p (.lst (x.set j v)))
def UP:OC X ez:=by
 intro c s z H o i v J L u Q I A B C h;obtain ⟨p,E,k,j,rfl,rfl,l,F,q⟩:=h;cases A;obtain ⟨t,rfl⟩:=B;obtain ⟨d,n,r,f,G⟩:=I.lst l;obtain ⟨e,M,m,w⟩:=UN F;have g:=r.length;have N:=Gn;have x:Inv X c z (Av H p (.lst (E.set j v))) {s with heap:=s.heap.update p (Obj.mapSeq (·.setIfInBounds j u))}:=
  I.lstUpd l f (eu d n j u) (r.set C j) (by rw [Lr];exact G) s.toks
 by_cases y:0≤k
 ·have hk:k.toNat=j:=by rw [seqIndex_of y w] at e;exact Option.some.inj e
  exact PySem.W.ki_setAt f y (by omega) (by rw [Bh,←g];exact w) (by rw [hk];exact ⟨_,x,q⟩)
 ·have hk:(k+(d.toArray.size:Int)).toNat=j:=by rw [seqIndex_neg (by omega) m] at e;rw [Bh,←g];exact Option.some.inj e
  exact PySem.W.ki_setBack f (by omega) (by rw [Bh,←g];exact m) (by omega) (by rw [hk];exact ⟨_,x,q⟩)
def eC (lo c:Option Int) (n:Nat):(sliceBounds lo c none n).1=((HT.sIx n 0 lo:Nat):Int)∧(sliceBounds lo c none n).2.1=((HT.sIx n n c:Nat):Int)∧(sliceBounds lo c none n).2.2=1:=by
 refine ⟨?_,?_,rfl⟩
 ·cases lo with
  |none=>simp [sliceBounds,HT.sIx]
  |some i=>
   simp only [sliceBounds,HT.sIx,Option.getD_none,show (1:Int)>0 by decide,if_true]
   by_cases h:i<0
   ·simp only [h,if_true]<;>omega
   ·simp only [h,if_false]<;>omega
 ·cases c with
  |none=>simp [sliceBounds,HT.sIx]
  |some i=>
   simp only [sliceBounds,HT.sIx,Option.getD_none,show (1:Int)>0 by decide,if_true]
   by_cases h:i<0
   ·simp only [h,if_true]<;>omega
   ·simp only [h,if_false]<;>omega
def eD (i:List Value) (lo h:Option Int):slicePick i.toArray lo h none=((i.drop (HT.sIx i.length 0 lo)).take (HT.sIx i.length i.length h - HT.sIx i.length 0 lo)).toArray:=by obtain ⟨c,d,e⟩:=eC lo h i.toArray.size;unfold slicePick;rw [c,d,e];simp only [sliceRange_one,pick_run,Bh]<;>rfl
def eE (K:Frag):V→Option Int→Option Int→Hp→VK→Prop:=fun x lo h H Q=>∃a c,x=.ref a∧SqL K H a c∧∀p,H p=none→Q (.ref p) (Av H p (.lst (Gp c lo h)))
def eF:SlR X (eE X.K):=by intro p s t H x v u w lo e y Q I g i j k h;obtain ⟨a,c,rfl,l,q⟩:=h;cases g;obtain ⟨m,r,f,n⟩:=I.list l;have d:=r.length;refine ⟨"list",_,slot_list_getitem.lookup,f.isList.typeIs,?_⟩;refine wpAny_getItem_list_slice f.isList i j k .none (by simp) ?_ (by rw [Bh]<;>omega);rw [eD,←d];refine ⟨.ref s.heap.objs.size,_,I.laid (t':=s.toks) (o:=.lst (Gp c lo e)) (fun b z q=>AW _ q) (AK _) ?_,rfl,q _ (I.hok.fresh (AK _))⟩;exact ⟨BJ (UM c lo e) n,_,0,(r.drop (HT.sIx c.length 0 lo)).take (HT.sIx c.length c.length e - HT.sIx c.length 0 lo),Bx _ rfl⟩
def Ed:V→Bool
 |.non=>true
 |.bl _=>true
 |.int _=>true
 |.str _=>true
 |_=>false
noncomputable def EN:V→V→Bool
 |.non,.non=>true
 |.bl a,.bl b=>a==b
 |.bl a,.int b=>(if a then 1 else 0)==b
 |.int a,.bl b=>a==(if b then 1 else 0)
 |.int a,.int b=>a==b
 |.str a,.str b=>a==b
 |_,_=>false
def eG (d:RelV y u) (r:RelV x v) (e:Ed y=true) (f:Ed x=true):SeqAt.EqAt A s u v (EN y x):=by
 cases y with
 |non=>
  cases d;cases x with
  |non=>cases r;exact SeqAt.EqAt.same _
  |bl b=>cases r;exact SeqAt.EqAt.none_bool b
  |int b=>obtain ⟨t,rfl⟩:=r;exact SeqAt.EqAt.none_int b t
  |str b=>obtain ⟨t,rfl⟩:=r;exact SeqAt.EqAt.none_str b t
  |_=>exact absurd (show false=true from f) BE
 |bl a=>
  cases d;cases x with
  |non=>cases r;exact SeqAt.EqAt.bool_none a
  |bl b=>cases r;exact SeqAt.EqAt.bool_bool a b
  |int b=>obtain ⟨t,rfl⟩:=r;exact SeqAt.EqAt.bool_int a b t
  |str b=>obtain ⟨t,rfl⟩:=r;exact SeqAt.EqAt.bool_str a b t
  |_=>exact absurd (show false=true from f) BE
 |int a=>
  obtain ⟨c,rfl⟩:=d;cases x with
  |non=>cases r;exact SeqAt.EqAt.int_none a c
  |bl b=>cases r;exact SeqAt.EqAt.int_bool a c b
  |int b=>obtain ⟨t,rfl⟩:=r;exact SeqAt.EqAt.int_int a c b t
  |str b=>obtain ⟨t,rfl⟩:=r;exact SeqAt.EqAt.int_str a c b t
  |_=>exact absurd (show false=true from f) BE
 |str a=>
  obtain ⟨c,rfl⟩:=d;cases x with
  |non=>cases r;exact SeqAt.EqAt.str_none a c
  |bl b=>cases r;exact SeqAt.EqAt.str_bool a c b
  |int b=>obtain ⟨t,rfl⟩:=r;exact SeqAt.EqAt.str_int a c b t
  |str b=>obtain ⟨t,rfl⟩:=r;exact SeqAt.EqAt.str_str a c b t
  |_=>exact absurd (show false=true from f) BE
 |_=>exact absurd (show false=true from e) BE
def DH (x:V) (u:Value):Bool:=match u with
 |.none=>EN .non x
 |.bool b=>EN (.bl b) x
 |.int i _=>EN (.int i) x
 |.str z _=>EN (.str z) x
 |_=>false
def L4 (r:RelV y u) (f:Ed y=true):DH x u=EN y x:=by
 cases y with
 |non=>cases r;rfl
 |bl b=>cases r;rfl
 |int i=>obtain ⟨t,rfl⟩:=r;rfl
 |str z=>obtain ⟨t,rfl⟩:=r;rfl
 |_=>exact absurd (show false=true from f) BE
def OR:∀{c:List V} {d:List Value},Vals c d→c.all Ed=true→d.any (DH x)=c.any fun y=>EN y x
 |_,_,.nil,_=>rfl
 |y::c,u::d,.cons r t,f=>by rw [List.all_cons,CP] at f;rw [List.any_cons,List.any_cons,L4 r f.1,OR t f.2]
def Kn (e:RelV x v) (g:Ed x=true):∀{c:List V} {d:List Value},Vals c d→c.all Ed=true→∀u∈d,SeqAt.EqAt A s u v (DH x u)
 |_,_,.nil,_=>fun u h=>by cases h
 |y::c,u::d,.cons r t,f=>fun i h=>by
  rw [List.all_cons,CP] at f;rcases qa6.mp h with rfl |h
  ·rw [L4 r f.1];exact eG r e f.1 g
  ·exact Kn e g t f.2 i h
def IW (x:V) (c:List V):Bool:=c.any fun y=>EN y x
def UQ (K:Frag) (n:Bool):R2:=fun x y H Q=>∃p c,y=.ref p∧(SqL K H p c∨SqT K H p c)∧Ed x=true∧c.all Ed=true∧Q (.bl (if n then !IW x c else IW x c)) H
def eI:OpR X (compareOp .In) (UQ X.K false):=by
 intro f s m H x y v u Q I g k h;obtain ⟨p,n,rfl,c,j,fs,q⟩:=h;cases k;rcases c with c |c
 ·obtain ⟨i,r,d,l⟩:=I.list c;refine SeqAt.in_listAt (DH x) d.isList (fun w e=>Kn g j r fs w (by simpa using e)) ⟨.bl _,H,I,rfl,?_⟩;rw [show i.toArray.any (DH x)=i.any (DH x) by simp,OR r fs];exact q
 ·obtain ⟨i,r,d,l⟩:=I.tuple c;refine SeqAt.in_tupleAt (DH x) d (fun w e=>Kn g j r fs w (by simpa using e)) ⟨.bl _,H,I,rfl,?_⟩;rw [show i.toArray.any (DH x)=i.any (DH x) by simp,OR r fs];exact q
def eJ:De X (.builtin "len") (fun x H Q=>∃p y,x=[.ref p]∧(SqL X.K H p y∨SqT X.K H p y)∧Q (.int y.length) H):=by
 intro g s l H x m Q I r h;obtain ⟨p,y,rfl,d,q⟩:=h;obtain ⟨u,rfl,j⟩:=Ec r;cases j;have n:=Gn;rcases d with d |d
 ·obtain ⟨i,e,f,k⟩:=I.list d;have c:=e.length;exact Calls.call_len_list f.isList (by simp only [Bh]<;>omega) ⟨.int y.length,H,I.tok _,⟨s.toks+1,by rw [Bh,c]⟩,q⟩
 ·obtain ⟨i,e,f,k⟩:=I.tuple d;have c:=e.length;exact len_tuple f (by simp only [Bh]<;>omega) ⟨.int y.length,H,I.tok _,⟨s.toks+1,by rw [Bh,c]⟩,q⟩
def eK:De X (.builtin "len") (fun x H Q=>∃z,x=[.str z]∧z.length≤sizeLine∧Q (.int z.length) H):=by intro p s c H x d Q I r h;obtain ⟨z,rfl,e,q⟩:=h;obtain ⟨u,rfl,t,rfl⟩:=Ec r;have f:=Gn;exact len_str (by omega) ⟨.int z.length,H,I.tok _,⟨_,rfl⟩,q⟩
def eL:De X (.type "list") (fun A H Q=>∃p y,A=[.ref p]∧(SqL X.K H p y∨SqT X.K H p y)∧∀l,H l=none→Q (.ref l) (Av H l (.lst y))):=by
 intro g s C H A F Q I r h;obtain ⟨p,y,rfl,j,q⟩:=h;obtain ⟨u,rfl,E⟩:=Ec r;cases E;have AQ:∀(i:List Value),Vals y i→y.length≤sizeLine→∀(c:Heap) (d:Nat),(∀b B,s.heap.get? b=some B→c.get? b=some B)→
  c.get? s.heap.objs.size=some {cls:=.type "list",dict:=none,data:=.seq i.toArray d,slots:=#[]}→EP X g C Q (.ref s.heap.objs.size) {s with heap:=c}:=fun i f k c d m e=>
  ⟨.ref s.heap.objs.size,_,I.laid (t':=s.toks) m (AK _) (show wu X.prog X.w _ c _ (.lst y) from ⟨k,i,d,f,e⟩),rfl,q _ (I.hok.fresh (AK _))⟩
 rcases j with j |j
 ·obtain ⟨i,f,v,k⟩:=I.list j;have t:=f.length;obtain ⟨o,w,x,n,z⟩:=v.isList;exact call_list_seq p (.inl rfl) w x z (fun c d m e=>AQ i f k c d m e) (by simp only [Bh]<;>omega)
 ·obtain ⟨i,f,v,k⟩:=I.tuple j;have t:=f.length;obtain ⟨o,w,x,n,z⟩:=v;exact call_list_seq p (.inr rfl) w x z (fun c d m e=>AQ i f k c d m e) (by simp only [Bh]<;>omega)
def eM:De X (.type "tuple") (fun x H Q=>∃p y,x=[.ref p]∧((SqL X.K H p y∧∀l,H l=none→Q (.ref l) (Av H l (.tup y)))∨(SqT X.K H p y∧Q (.ref p) H))):=by
 intro c s k H x A Q I r h;obtain ⟨p,y,rfl,h⟩:=h;obtain ⟨u,rfl,v⟩:=Ec r;cases v;rcases h with ⟨f,q⟩ |⟨f,q⟩
 ·obtain ⟨i,g,j,m⟩:=I.list f;have n:=g.length;refine call_tuple_list j.isList (fun d w=>?_) (by simp only [Bh]<;>omega);have t:Inv X c k H {s with heap:=d}:=I.kept (t':=s.toks) w;have z:Inv X c k (Av H d.objs.size (.tup y)) {s with heap:=d.push {cls:=.type "tuple",data:=.seq i.toArray}}:=
   t.laid (t':=s.toks) (fun b o e=>AW _ e) (AK _) (show wu X.prog X.w _ _ _ (.tup y) from ⟨m,i,g,IsTup.new _ _,wH.new⟩)
  exact ⟨.ref d.objs.size,_,z,rfl,q _ (t.hok.fresh (AK _))⟩
 ·obtain ⟨i,g,j,m⟩:=I.tuple f;exact call_tuple_same j ⟨.ref p,H,I,rfl,q⟩
def OS (K:Frag) (T:String) (x:V) (H:Hp):Prop:=match x with
 |.str _=>T="str"
 |.int _=>T="int"
 |.ref p=>(T="list"∧∃c,SqL K H p c)∨(T="tuple"∧∃o,K.lookup p=some o∧o.cls=.type "tuple"∧o.dict=none)
 |_=>False
def L5 {k:St} {s:Shared} {T:String} (I:Inv X d k H s) (r:RelV x v) (f:OS X.K T x H):
 s.TypeIs v T∧∀a,v=.ref a→∃g,s.heap.get? a=some g∧g.dict=none:=by
 cases x with
 |str z=>obtain ⟨t,rfl⟩:=r;cases (show T="str" from f);exact ⟨typeIs_str s z t,fun _ e=>nomatch e⟩
 |int i=>obtain ⟨t,rfl⟩:=r;cases (show T="int" from f);exact ⟨typeIs_int s i t,fun _ e=>nomatch e⟩
 |ref p=>
  cases r;rcases f with ⟨rfl,u,l⟩ |⟨rfl,o,hk,m,h⟩
  ·obtain ⟨q,_,j,_⟩:=I.list l;refine ⟨j.isList.typeIs,fun a e=>?_⟩;cases e;obtain ⟨o,n,e,c,h,_⟩:=j;exact ⟨o,e,h⟩
  ·refine ⟨⟨o,I.kIn p o hk,m⟩,fun a e=>?_⟩;cases e;exact ⟨o,I.kIn _ o hk,h⟩
 |_=>exact False.elim f
def eN (K:Frag) (T:String) (r:V→List V→Hp→VK→Prop) (to:TE):TE:=fun c H Q=>to c H fun x h=>OS K T x h∧r x [] h Q
def eO (K:Frag) (T:String) (r:V→List V→Hp→VK→Prop) (to:TE) (t:TA):TE:=fun c H Q=>to c H fun x h=>OS K T x h∧t c h fun d e=>r x d e Q
variable {o e:Expr} {es:List Expr} {to:TE} {t:TA} {name:Str} {apos cpos:Pos} {T id:String} {r:V→List V→Hp→VK→Prop}
def eP (l:PlainAttrs T) (f:Slot T name id) (g:typeOf (.builtin id)=pure (.type "method_descriptor")) (m:L3 X id r) (n:PE X o to)
 (c:attributeBase o name X.env (eval o X.env)=eval o X.env:=by rfl) (d:(apos.endLine==cpos.line)=true:=by rfl):PE X (.Call (.Attribute o name apos) [] [] cpos) (eN X.K T r to):=by
 intro p s i H Q I h;refine wpAny_Call_method0_late c d (Ap (n p s i H _ I h) fun v q z=>?_);obtain ⟨x,u,j,k,w,y⟩:=z;obtain ⟨A,B⟩:=L5 j k w;exact ⟨T,id,l,f,g,A,B,Calls.callWith_builtin rfl (PySem.evalArgs_none (m p q i u x [] v [] Q j k .nil y))⟩
def eQ (u:PlainAttrs T) (g:Slot T name id) (k:typeOf (.builtin id)=pure (.type "method_descriptor")) (w:L3 X id r) (y:PE X o to) (A:PA X (e::es) t)
 (d:attributeBase o name X.env (eval o X.env)=eval o X.env:=by rfl)
 (i:((backTo cpos (starEach (e::es) X.env)).all (fun x=>!x.1)&&(backToKw cpos (keywordEach [] X.env)).all (fun x=>x.1.isSome)
  &&decide ((e::es).length+([]:List Keyword).length+(if ([]:List Keyword).isEmpty then 0 else 1)<30))=true:=by rfl)
 (f:(apos.endLine==cpos.line)=true:=by rfl) (B:starEach (e::es) X.env=(false,eval e X.env)::starEach es X.env:=by rfl) (c:(backTo cpos (starEach es X.env)).any (·.1)=false:=by rfl):
 PE X (.Call (.Attribute o name apos) (e::es) [] cpos) (eO X.K T r to t):=by
 intro p s l H Q I h;refine wpAny_Call_method_late d i f rfl (Ap (y p s l H _ I h) fun v C z=>?_);obtain ⟨x,E,m,n,F,G⟩:=z;obtain ⟨J,L⟩:=L5 m n F;refine ⟨T,id,u,g,k,J,L,?_⟩;have q:=A cpos p C l E _ m G;rw [B] at q ⊢;refine Calls.callWith_builtin (by show (false||(backTo cpos (starEach es X.env)).any (·.1))=false;rw [c]<;>rfl) (Calls.evalArgs_plain ?_);exact Ap q fun M N j=>by obtain ⟨O,P,R,S,U⟩:=j;exact (w p N l P x O v M Q R n S U)
end
def UR (X:Cx) (id:String) (r:V→List V→Hp→VK→Prop):Prop:=
 ∀(p:PQ) (s:Shared) (a:St) (H:Hp) (x:V) (b:List V) (v:Value) (u:List Value) (Q:VK),Inv X p a H s→RelV x v→Vals b u→r x b H Q→
  wpAny (model X.prog X.w) X.A (call (.builtin id) (v::u)) (EP X p a Q) X.xe s
def Vals.one (h:Vals [x] a):∃u,a=[u]∧RelV x u:=by
 cases h with
 |cons r t=>cases t;exact ⟨_,rfl,r⟩
def Vals.zero:∀{u:List Value},Vals [] u→u=[]
 |_,.nil=>rfl
def Vals.dropLast {x:List V} {u:List Value} (h:Vals x u):Vals x.dropLast u.dropLast:=by
 induction h with
 |nil=>exact .nil
 |cons r t i=>
  cases t with
  |nil=>exact .nil
  |cons q a=>exact .cons r i
def Vals.reverse {x:List V} {u:List Value} (h:Vals x u):Vals x.reverse u.reverse:=by
 induction h with
 |nil=>exact .nil
 |cons r t i=>rw [List.reverse_cons,List.reverse_cons];exact Vals.append i (.cons r .nil)
def Vals.rep (h:Vals x u):∀k:Nat,Vals (List.replicate k x).flatten (List.replicate k u).flatten
 |0=>.nil
 |k+1=>by rw [Gg,Gg,G5,G5];exact Vals.append h (Vals.rep h k)
def eR {c:Type} (l:List c):l.eraseIdx (l.length - 1)=l.dropLast:=by
 induction l with
 |nil=>rfl
 |cons a r i=>
  cases r with
  |nil=>rfl
  |cons b r=>
   have e:(a::b::r).length - 1=((b::r).length - 1)+1:=by have h:(a::b::r).length=r.length+2:=rfl;have d:(b::r).length=r.length+1:=rfl;omega
   rw [e,List.eraseIdx_cons_succ,i]
   all_goals rfl
def L6 (i:List Value):∀(k:Nat) (a:List Value),
 List.foldl (fun x b=>x++b) a.toArray (List.replicate k i.toArray)=(a++(List.replicate k i).flatten).toArray
 |0,a=>by simp
 |k+1,a=>by
  have e:a.toArray++i.toArray=(a++i).toArray:=by simp
  have c:(a++i)++(List.replicate k i).flatten=a++(List.replicate (k+1) i).flatten:=by rw [Gg,G5,J7]
  rw [←c,←L6 i k (a++i),←e,Gg,Kb]
section
variable {X:Cx} {pins:PQ} {σ:St} {H:Hp} {s:Shared} {l b:Addr} {xs ys zs:List V}
def Inv.lset {i its':List Value} {n:Nat} {f:Array Value→Array Value} {t:Nat} (I:Inv X pins σ H s) (h:H l=some (.lst xs))
 (e:s.heap.get? l=some {cls:=.type "list",data:=.seq i.toArray n}) (a:f i.toArray=its'.toArray) (c:Vals ys its') (d:ys.length≤sizeLine):
 Inv X pins σ (Av H l (.lst ys)) {s with heap:=s.heap.update l (Obj.mapSeq f),toks:=t}:=by
 have q:=PySem.IsL.update e f;rw [a] at q;refine I.write (x:=l) (e:=l) (by rw [h];exact trivial) (.inl rfl) (fun k u g j=>(N9 s.heap (Obj.mapSeq f) (Ne.symm g)).trans j) ⟨_,q⟩ ?_;exact ⟨d,its',_,c,q⟩
def Inv.lnew {i:List Value} {t':Nat} (I:Inv X pins σ H s) (h:Vals ys i) (a:ys.length≤sizeLine):
 Inv X pins σ (Av H s.heap.objs.size (.lst ys)) {s with heap:=s.heap.push {cls:=.type "list",data:=.seq i.toArray},toks:=t'}:=
 I.laid (fun _ _ q=>AW _ q) (AK _) ⟨a,i,0,h,Bx _ rfl⟩
def Inv.fresh (I:Inv X pins σ H s):H s.heap.objs.size=none:=I.hok.fresh (AK _)
def Inv.lstM (I:Inv X pins σ H s) (h:H l=some (.lst xs)):xs.length≤sizeLine∧∃(i:List Value) (n:Nat),Vals xs i∧xs.length=i.length∧s.heap.get? l=some {cls:=.type "list",data:=.seq i.toArray n}:=by obtain ⟨z,i,n,r,e⟩:=I.hok l _ h;exact ⟨z,i,n,r,r.length,e⟩
def eS {n:Nat} (h:n≤sizeLine):Builtin.List.listTooLong n=false:=by unfold Builtin.List.listTooLong;exact decide_eq_false (by omega)
end
section
variable {X:Cx}
def eT:V→List V→Hp→VK→Prop:=fun x v H Q=>∃l a y,x=.ref l∧v=[y]∧H l=some (.lst a)∧a.length<sizeLine∧Q .non (Av H l (.lst (a++[y])))
def eU:UR X "list.append" eT:=by intro p s f H x g v j Q I b c h;obtain ⟨l,k,y,rfl,rfl,a,m,q⟩:=h;cases b;obtain ⟨u,rfl,d⟩:=c.one;obtain ⟨z,i,n,r,o,e⟩:=I.lstM a;refine call_meets F.slot_list_append ⟨_,e,rfl⟩ F.entry_list_append (F.args_list_append_2 _ _) (PySem.list_append l i.toArray n u (by rw [Bh];omega)) ⟨e,?_⟩;refine ⟨.non,_,I.lset (its':=i++[u]) a e (by simp) (r.append (.cons d .nil)) ?_,rfl,q⟩;rw [DE,Ob];omega
def eV:V→List V→Hp→VK→Prop:=fun x v H Q=>∃l a y,x=.ref l∧v=[]∧H l=some (.lst a)∧a[a.length - 1]?=some y∧Q y (Av H l (.lst a.dropLast))
def eW:UR X "list.pop" eV:=by
 intro p s o H x t v w Q I d f h;obtain ⟨l,A,y,rfl,rfl,c,g,q⟩:=h;cases d;have a:=f.zero;subst a;obtain ⟨z,i,n,r,j,e⟩:=I.lstM c;obtain ⟨u,k,m⟩:=r.get g;have b:i.toArray[i.toArray.size - 1]?=some u:=by
  show i.toArray[i.length - 1]?=some u
  rw [←Array.getElem?_toList,←j];exact k
 refine call_meets F.slot_list_pop ⟨_,e,rfl⟩ F.entry_list_pop (F.args_list_pop_1 _) (MeetsSeq.list_pop_last l i.toArray n u b (by rw [Bh];omega)) ⟨e,?_⟩;refine ⟨y,_,I.lset (its':=i.dropLast) c e ?_ r.dropLast ?_,m,q⟩
 ·show i.toArray.eraseIdxIfInBounds (i.toArray.size - 1)=i.dropLast.toArray
  rw [Bh,List.eraseIdxIfInBounds_toArray,eR]
 ·rw [List.length_dropLast];omega
def eX:R2:=fun x y H Q=>∃l b a z,x=.ref l∧y=.ref b∧H l=some (.lst a)∧H b=some (.lst z)∧a.length+z.length≤sizeLine∧∀p,H p=none→Q (.ref p) (Av H p (.lst (a++z)))
def op_cat:OpR X (binaryOp .Add) eX:=by
 intro p s t H x y v u Q I c d h;obtain ⟨l,b,w,A,rfl,rfl,f,g,B,q⟩:=h;cases c;cases d;obtain ⟨z,a,n,r,C,e⟩:=I.lstM f;obtain ⟨E,i,F,j,k,m⟩:=I.lstM g;refine PySem.P.add_list e m ?_ (by rw [Bh,Bh];omega);have o:a.toArray++i.toArray=(a++i).toArray:=by simp
 rw [o];exact ⟨.ref _,_,I.lnew (t':=s.toks) (r.append j) (by rw [DE];omega),rfl,q _ I.fresh⟩
def eY:R2:=fun x y H Q=>∃l k a,x=.ref l∧y=.int k∧H l=some (.lst a)∧-(2^63)≤k∧k<2^63∧a.length*k.toNat≤sizeLine∧
 ∀p,H p=none→Q (.ref p) (Av H p (.lst (List.replicate k.toNat a).flatten))
def L7 {a:Type} (x:List a) (k:Nat):(List.replicate k x).flatten.length=k*x.length:=by
 induction k with
 |zero=>simp
 |succ k i=>rw [Gg,G5,DE,i,Ha,Nat.add_comm]
def eZ:OpR X (binaryOp .Mult) eY:=by
 intro p s N H x y v u Q I A B h;obtain ⟨l,k,O,rfl,rfl,C,E,G,w,q⟩:=h;cases A;obtain ⟨t,rfl⟩:=B;obtain ⟨z,i,n,r,J,e⟩:=I.lstM C;have c:i.toArray.size*k.toNat≤sizeLine:=by rw [Bh,←J];exact w
 have d:¬i.toArray.size*k.toNat>(2^63 - 1) / 8:=by
  have:(sizeLine:Nat)≤(2^63 - 1) / 8:=by decide
  omega
 have f:¬(!Builtin.List.listFitsIndex k)=true:=by rw [fitsIndex_both E G];exact BE
 have b:¬Builtin.List.listTooLong (i.toArray.size*k.toNat)=true:=by rw [eS c];exact BE
 have g:List.foldl (fun j o=>j++o) #[] (List.replicate (if i.toArray.isEmpty=true then 0 else k.toNat) i.toArray)=(List.replicate k.toNat i).flatten.toArray:=by
  have L:∀m:Nat,List.foldl (fun j o=>j++o) #[] (List.replicate m i.toArray)=(List.replicate m i).flatten.toArray:=fun m=>by have:=L6 i m [];rw [G7] at this;exact this
  rw [L];cases i with
  |nil=>simp
  |cons a P=>rw [if_neg (by simp)]
 refine wpAny_binaryOp_repeat_ref (T:="list") (U:="int") (by decide) ⟨_,e,rfl⟩ (fun M=>typeIs_int M k t) noFill_list_mul F.fills_int_mul F.slot_int_rmul repeat_list F.slot_int_index.lookup
  (call_meets F.slot_int_rmul (typeIs_int s k t) F.entry_int_rmul (F.args_int_rmul_2 _ _) (int___rmul___int_list k t l i.toArray n)
   ⟨e,rfl,⟨_,e,rfl⟩,call_meets F.slot_list_mul ⟨_,e,rfl⟩ F.entry_list_mul (F.args_list_mul_2 _ _) (AutoListH.list___mul___list_int_3 l i.toArray n k t f d b) ⟨e,?_⟩⟩)
 rw [g];exact ⟨.ref _,_,I.lnew (t':=s.toks) (r.rep k.toNat) (by rw [L7,Kc];exact w),rfl,q _ I.fresh⟩
end
end L2
namespace Att
open PySem PySem.W PySem.Calls PyProof.Rows
def fb {P:Params}:∀(c:List Int) (v:List Value),WellAll P h v (c.map WData.int)→IntsAre v c:=by
 intro c
 induction c with
 |nil=>intro v w;rw [Hb] at w;cases w;exact .nil
 |cons n c i=>
  intro v w;rw [Bk] at w;cases w with
  |cons a b=>cases a;exact .cons _ _ (i _ b)
def fc {l:OpenLaw} {n:Nat} (s:l.most=some n) {P:Params} {h:Heap} {b:List WData} {v:List Value}
 (e:l.row.toRowW.claim.pre b=true) (k:WellAll P h v b):
 ∃a o c,v=[Value.ref a]∧b=[WData.list (c.map WData.int)]∧h.get? a=some {cls:=.type "list",data:=.seq o.toArray}∧IntsAre o c∧c.length≤n:=by
 have m:WShape.hasAll [] b [.list .int]=true:=(pre_splitW e).1;have p:l.pre.holds [] {args:=b}=true:=(pre_splitW e).2;obtain ⟨d,r,rfl,t,u⟩:=hasAllW_cons m;obtain rfl:=hasAllW_nil u;obtain ⟨B,rfl,w⟩:=hasW_list t;obtain ⟨c,rfl⟩:=items_int w;have f:c.length≤n:=by
  unfold OpenLaw.pre at p;have i:(WTm.not (.lt (.lit (.int (n:Int))) (.len (.arg 0)))).holds [] {args:=[.list (c.map .int)]}=true:=by have i:=(holds_andW p).1;rw [s] at i;exact i
  have j:=condW_of i (w_not (w_lt w_lit (w_len_list (w_arg rfl))));rw [Ci] at j;refine IP fun q=>?_;have x:(n:Int)<((c.length:Nat):Int):=by omega
  first
   |(rw [decide_eq_true x] at j;exact absurd j (by decide))
   |(simp at j;omega)
 cases k with
 |cons y z=>
  cases z;cases y with
  |list A g=>exact ⟨_,_,c,rfl,rfl,A,fb c _ g,f⟩
def fe (l:OpenLaw) (a:List WData):l.row.toRowW.claim.post a (.bool true) a=true:=
 postW_of (r:=l.row.toRowW) (X:=(true==true))
  (show WShape.has [] (.bool true) .bool=true by first |rfl |decide |simp [WShape.has,WShape.arms,WShape.armsAll])
  (show (WTm.eq .res (.lit (.bool true))).value [] {args:=a,res:=some (.bool true),after:=a}=some (.bool (true==true)) from w_eq_bool (w_res rfl) w_lit) rfl
end Att
namespace L2
open PySem PySem.Spec PyProof.Rows
def wN:∀{v:List Value} {a:List Int},IntsAre v a→Vals (a.map V.int) v
 |_,_,.nil=>.nil
 |_,_,.cons n t h=>.cons ⟨t,rfl⟩ (wN h)
abbrev US:Fc:=fun _ _ _ _ _ _=>False
abbrev E0:XK:=fun _ _ _=>False
inductive UT (K:Frag) (x qual:Str) (st:Stmt) (f:Addr) (fd:FuncData):Prop where
 |mk (oc:Value) (od:Option Addr) (kV doc pm:Value) (an:Option Addr) (cdv ct:Value) (osl:Array (Option Value)) (f1:fd=fnOf x qual (wq st) (wh st) (wb st) .none kV doc pm an cdv ct) (f2:K.lookup f=some ⟨oc,od,.func fd,osl⟩) (f3:codeIn K cdv qual=true):UT K x qual st f fd
structure Fun (K:Frag) (x qual:Str) (st:Stmt) (f:Addr) (fd:FuncData):Prop where
 ex:UT K x qual st f fd
 kp:keepIn K (.ref f)=true
section
variable {P:Program} {w:World} {K:Frag} {mg:Str→Option Value} {base:Heap}
def Fun.binds {st:Stmt} {p:List Str} (F:Fun K x q st f g)
 (h:∀(kV d a:Value) (b:Option Addr) (c e:Value) (u:List Value),u.length=p.length→bindArgs (fnOf x q (wq st) (wh st) (wb st) .none kV d a b c e) ⟨u,[]⟩=pure (p.zip u)):Binds K g p []:=by
 obtain ⟨j,k,kV,d,a,b,c,e,o,rfl,lk,i⟩:=F.ex;exact .all (h kV d a b c e)
def IX {st:Stmt} {f:Addr} {g:Value} {h b:Option Addr} {o:Array (Option Value)} {kV d p a e:Value} (l:K.lookup f=some ⟨g,h,.func (fnOf x q (wq st) (wh st) (wb st) .none kV d p b a e),o⟩)
 (c:codeIn K a q=true) (k:keepIn K (.ref f)=true):Fun K x q st f (fnOf x q (wq st) (wh st) (wb st) .none kV d p b a e):=⟨⟨g,h,kV,d,p,b,a,e,o,rfl,l,c⟩,k⟩
end
end L2
namespace LS
open PySem PySem.Spec PyProof.Rows L2
inductive D where
 |non |bl (b:Bool) |int (i:Int) |str (x:Str) |tup (ds:List D) |loc (l:Nat) |scr (ns:List Int) |adr (a:Addr) |ty (n:String) |exc (n:Str) (fs:List (Str×Int)) |edic |glo (n:Str) |clo (a:Addr) (vs:List V) (ds:List D)
inductive Dz where
 |i (n:Int) |t (ns:List Int) |b (rs:List (List Int))
 deriving DecidableEq
def kD:Dz→D
 |.i n=>.int n
 |.t a=>.tup (a.map D.int)
 |.b b=>.tup (b.map fun r=>.tup (r.map D.int))
inductive Cell where
 |lst (ds:List D) |tabn (g:Str) |dic (fz:Bool) (kvs:List (Dz×D)) |ins (n:Str) (fs:List (Str×D))
abbrev Cell.tab:Cell:=.tabn "law"
def UU (g:Str):Str:=g++(".<locals>.":Str)
def IY (g:Str):Str:=UU g++("<lambda>":Str)
abbrev HD:=List Cell
abbrev Ag:=List (Option D)
inductive Out (α:Type) where
 |ok (a:α) (h:HD) |err (C:Value) (fs:List (Str×D)) (h:HD) |stuck
def Out.bind {b c:Type} (o:Out b) (k:b→HD→Out c):Out c:=match o with
 |.ok a h=>k a h
 |.err C fs h=>.err C fs h
 |.stuck=>.stuck
@[simp] theorem Out.bind_ok {b c:Type} (a:b) (h:HD) (k:b→HD→Out c):(Out.ok a h).bind k=k a h:=rfl
@[simp] theorem Out.bind_err {a b:Type} (C:Value) (fs:List (Str×D)) (h:HD) (k:a→HD→Out b):(Out.err C fs h:Out a).bind k=.err C fs h:=rfl
@[simp] theorem Out.bind_stuck {a b:Type} (k:a→HD→Out b):(Out.stuck:Out a).bind k=.stuck:=rfl
def OT:HO→Bool
 |.tup _=>true
 |.frz _ _=>true
 |.ext _=>true
 |.xd _=>true
 |_=>false
def Kp (H h:Hp):Prop:=∀b o,H b=some o→OT o=true→h b=some o
def Kp.refl (H:Hp):Kp H H:=fun _ _ e _=>e
def Kp.trans (a:Kp H h) (b:Kp h d):Kp H d:=fun c o e i=>b c o (a c o e i) i
def Kp.new {H:Hp} {o:HO} (h:H p=none):Kp H (Av H p o):=fun b u e _=>by rw [AJ (BY e h)];exact e
def Kp.set {H:Hp} {o u:HO} (h:H p=some o) (i:OT o=false):Kp H (Av H p u):=fun b w e a=>by
 rw [AJ]
 ·exact e
 ·intro z;rw [z,h] at e;cases e;rw [i] at a;cases a
def FzL (K:Frag) (H:Hp) (a:Addr) (x:List V):Prop:=(∃o,H a=some (.frz o (.lst x)))∨SqL K (fun _=>none) a x
def Kp.fzL {K:Frag} (k:Kp H b) (h:FzL K H a x):FzL K b a x:=by
 rcases h with ⟨o,h⟩ |h
 ·exact .inl ⟨o,k _ _ h rfl⟩
 ·exact .inr h
def FzL.sq {K:Frag} (h:FzL K H a x):SqL K H a x:=by
 rcases h with ⟨o,h⟩ |(h |⟨o,h⟩) |h
 ·exact .inl (.inr ⟨o,h⟩)
 ·cases h
 ·cases h
 ·exact .inr h
def Gq (C:Addr) (b:Option Addr) (a:Addr) (h:Heap):Prop:=∃o v,h.get? a=some o∧o.cls=.ref C∧(∀d,b=some d→o.dict=some d)∧o.data=.fields v
def UV (a:Addr) (h:Heap):Prop:=a≠sysModules∧∃o e,h.get? a=some o∧o.ExactDict∧o.data=.dict #[] e
inductive UW (K:Frag) (a:Addr) (vs:List V):Prop where
 |mk (o:Obj) (its:Array Value) (n:Nat) (f1:K.lookup a=some o) (f2:o.cls=.type "tuple") (f3:o.dict=none) (f4:o.data=.seq its n) (f5:its.size≤sizeLine) (f6:Vals vs its.toList):UW K a vs
def TupAt (K:Frag) (H:Hp) (a:Addr) (v:List V):Prop:=H a=some (.tup v)∨UW K a v
def tq {K:Frag} (t:TupAt K H a v):SqT K H a v:=by
 rcases t with t |⟨o,i,n,f,b,g,c,d,e⟩
 ·exact SqT.of t
 ·exact .inr ⟨o,i,n,f,b,c,d,e⟩
def tok {K:Frag} (ok:HOk P w H h∧K.In h) (t:TupAt K H a v):Oz h a v:=by
 rcases t with t |⟨o,i,n,b,c,d,g,j,f⟩
 ·exact ok.1 a _ t
 ·have e:=ok.2 a o b;have l:v.length=i.toList.length:=L2.Vals.length f;have k:i.toList.length=i.size:=Array.length_toList;exact ⟨BJ (IR (l.trans k)) j,i.toList,f,⟨o,e,c,n,by simpa using g⟩,fun u z=>by rw [e] at z;cases z;exact d⟩
def TupAt.keep {K:Frag} (t:TupAt K H a v) (k:Kp H h):TupAt K h a v:=t.imp (fun t=>k _ _ t rfl) id
mutual
def DV (K:Frag) (m:List Addr) (H:Hp):D→V→Prop
 |.non,v=>v=.non
 |.bl b,v=>v=.bl b
 |.int i,v=>v=.int i
 |.str x,v=>v=.str x
 |.tup c,v=>∃a vs,v=.ref a∧TupAt K H a vs∧DVs K m H c vs
 |.loc l,v=>∃a,v=.ref a∧m[l]?=some a
 |.scr h,v=>∃a,v=.ref a∧FzL K H a (h.map V.int)
 |.adr a,v=>v=.ref a
 |.ty n,v=>v=.ty n
 |.exc n fs,v=>∃a C e,v=.ref a∧nsIn K mainGlobals n=some (some (.ref C))∧H a=some (.ext (Gq C e a))∧∀f i,fs.lookup f=some i→∃d g,e=some d∧H d=some (.xd g)∧g.lookup f=some (.int i)
 |.edic,v=>∃a,v=.ref a∧H a=some (.ext (UV a))
 |.glo n,v=>∃a,v=.ref a∧nsIn K mainGlobals n=some (some (.ref a))
 |.clo a vs c,v=>v=.ref a∧DVs K m H c vs
def DVs (K:Frag) (m:List Addr) (H:Hp):List D→List V→Prop
 |[],a=>a=[]
 |d::b,a=>∃v r,a=v::r∧DV K m H d v∧DVs K m H b r
end
section
variable {K:Frag} {m m':List Addr} {H H':Hp}
def Hj {l:Nat} (p:m <+:m') (h:m[l]?=some a):m'[l]?=some a:=by obtain ⟨t,rfl⟩:=p;have b:l<m.length:=(qa1.mp h).1;rw [EH b];exact h
mutual
def DV.keep (p:m <+:m') (k:Kp H H'):∀{d:D} {v:V},DV K m H d v→DV K m' H' d v
 |.non,_,h=>by simpa [DV] using h
 |.bl _,_,h=>by simpa [DV] using h
 |.int _,_,h=>by simpa [DV] using h
 |.str _,_,h=>by simpa [DV] using h
 |.tup b,_,h=>by simp only [DV] at h ⊢;obtain ⟨a,c,e,q,r⟩:=h;exact ⟨a,c,e,q.keep k,DVs.keep p k r⟩
 |.loc l,_,h=>by simp only [DV] at h ⊢;obtain ⟨a,e,q⟩:=h;exact ⟨a,e,Hj p q⟩
 |.scr u,_,h=>by simp only [DV] at h ⊢;obtain ⟨a,e,q⟩:=h;exact ⟨a,e,k.fzL q⟩
 |.adr _,_,h=>by simpa [DV] using h
 |.ty _,_,h=>by simpa [DV] using h
 |.exc _ _,_,h=>by simp only [DV] at h ⊢;obtain ⟨a,C,g,e,q,r,t⟩:=h;exact ⟨a,C,g,e,q,k _ _ r rfl,fun f i z=>let ⟨d,j,n,o,s⟩:=t f i z;⟨d,j,n,k _ _ o rfl,s⟩⟩
 |.edic,_,h=>by simp only [DV] at h ⊢;obtain ⟨a,e,r⟩:=h;exact ⟨a,e,k _ _ r rfl⟩
 |.glo _,_,h=>by simpa [DV] using h
 |.clo _ _ b,_,h=>by simp only [DV] at h ⊢;exact ⟨h.1,DVs.keep p k h.2⟩
def DVs.keep (p:m <+:m') (k:Kp H H'):∀{a:List D} {b:List V},DVs K m H a b→DVs K m' H' a b
 |[],_,h=>by simpa [DVs] using h
 |d::a,_,h=>by simp only [DVs] at h ⊢;obtain ⟨v,r,e,q,t⟩:=h;exact ⟨v,r,e,DV.keep p k q,DVs.keep p k t⟩
end
def DVs.nil:DVs K m H [] []:=by simp [DVs]
def DVs.cons {d:D} {v:V} {b:List D} {a:List V} (h:DV K m H d v) (t:DVs K m H b a):DVs K m H (d::b) (v::a):=by simp only [DVs];exact ⟨v,a,rfl,h,t⟩
def DVs.len:∀{a:List D} {b:List V},DVs K m H a b→a.length=b.length
 |[],_,h=>by simp only [DVs] at h;subst h;rfl
 |d::a,_,h=>by simp only [DVs] at h;obtain ⟨v,r,e,_,t⟩:=h;subst e;simp [DVs.len t]
def DVs.get:∀{a:List D} {b:List V} {i:Nat} {d:D},DVs K m H a b→a[i]?=some d→∃v,b[i]?=some v∧DV K m H d v
 |[],_,_,_,_,e=>by simp at e
 |d::a,_,i,x,h,e=>by
  simp only [DVs] at h;obtain ⟨v,r,rfl,q,t⟩:=h;cases i with
  |zero=>simp at e;subst e;exact ⟨v,rfl,q⟩
  |succ i=>obtain ⟨w,c,f⟩:=DVs.get (i:=i) t (by simpa using e);exact ⟨w,by simpa using c,f⟩
def DVs.app:∀{a e:List D} {b w:List V},DVs K m H a b→DVs K m H e w→DVs K m H (a++e) (b++w)
 |[],_,_,_,h,t=>by simp only [DVs] at h;subst h;exact t
 |d::a,_,_,_,h,t=>by simp only [DVs] at h;obtain ⟨v,r,rfl,q,u⟩:=h;exact .cons q (DVs.app u t)
def DVs.set:∀{a:List D} {b:List V} {d:D} {v:V} (i:Nat),DVs K m H a b→DV K m H d v→DVs K m H (a.set i d) (b.set i v)
 |[],_,_,_,_,h,_=>by simp only [DVs] at h;subst h;exact .nil
 |d::a,_,_,_,i,h,c=>by
  simp only [DVs] at h;obtain ⟨v,r,rfl,q,u⟩:=h;cases i with
  |zero=>exact .cons c u
  |succ i=>exact .cons q (DVs.set i u c)
def DVs.take:∀{a:List D} {b:List V} (n:Nat),DVs K m H a b→DVs K m H (a.take n) (b.take n)
 |_,_,0,_=>by simpa using (DVs.nil:DVs K m H [] [])
 |[],_,n+1,h=>by simp only [DVs] at h;subst h;exact .nil
 |d::a,_,n+1,h=>by simp only [DVs] at h;obtain ⟨v,r,rfl,q,u⟩:=h;exact .cons q (DVs.take n u)
def DVs.drop:∀{a:List D} {b:List V} (n:Nat),DVs K m H a b→DVs K m H (a.drop n) (b.drop n)
 |_,_,0,h=>by simpa using h
 |[],_,n+1,h=>by simp only [DVs] at h;subst h;exact .nil
 |d::a,_,n+1,h=>by simp only [DVs] at h;obtain ⟨v,r,rfl,q,u⟩:=h;simpa using DVs.drop n u
def DVs.rep (h:DVs K m H d v):∀n,DVs K m H (List.replicate n d).flatten (List.replicate n v).flatten
 |0=>by simpa using (DVs.nil:DVs K m H [] [])
 |n+1=>by rw [Gg,G5,Gg,G5];exact h.app (DVs.rep h n)
def fg (q:Str) (c:Addr) (h:Heap):Prop:=h.CodeRec (.ref c) q
def wM (K:Frag) (g:Str) (H:Hp) (a:Addr):Prop:=(∃c,tabP K g=some (c,a))∧∃p,H a=some (.tbl p)∧TriplesOk p.toList∧∀pos b,codeAmong pos p.toList=some b→∃c,b=.ref c∧H c=some (.ext (fg (IY g) c))
def wM.keep {K:Frag} {H H':Hp} (t:wM K g H a) (k:Kp H H') (e:H' a=H a):wM K g H' a:=by obtain ⟨z,p,h,b,d⟩:=t;exact ⟨z,p,e.trans h,b,fun pos f q=>let ⟨c,i,j⟩:=d pos f q;⟨c,i,k _ _ j rfl⟩⟩
def OU (h:List Int):Int:=reduceHash (Builtin.Tuple.tupleHashOf h)
def fh:Dz→Int
 |.i n=>hashInt n
 |.t a=>OU (a.map hashInt)
 |.b b=>OU (b.map fun r=>OU (r.map hashInt))
def fj (p:Dz×V×V) (e:DictEntry):Prop:=e.hash=fh p.1∧RelV p.2.1 e.key∧RelV p.2.2 e.val
def OV (a:Addr) (e:List (Dz×V×V)) (h:Heap):Prop:=(a==sysModules)=false∧e.length≤sizeLine∧(e.map (·.1)).Nodup∧∃o u b,h.get? a=some o∧o.ExactDict∧o.data=.dict u b∧Paired fj e u.toList
def wY (K:Frag) (m:List Addr) (H:Hp):List (Dz×D)→List (Dz×V×V)→Prop
 |[],e=>e=[]
 |p::r,e=>∃k v a,e=(p.1,k,v)::a∧DV K m H (kD p.1) k∧DV K m H p.2 v∧wY K m H r a
def wY.keep {K:Frag} {m m':List Addr} (p:m <+:m') (k:Kp H H'):∀{a:List (Dz×D)} {b:List (Dz×V×V)},wY K m H a b→wY K m' H' a b
 |[],_,h=>h
 |_::_,_,h=>by obtain ⟨c,v,r,e,d,f,t⟩:=h;exact ⟨c,v,r,e,d.keep p k,f.keep p k,t.keep p k⟩
def w4 (f:Bool) (H:Hp) (a:Addr) (e:List (Dz×V×V)):Prop:=match f with
 |true=>∃o,H a=some (.frz o (.dct (OV a e)))
 |false=>H a=some (.dct (OV a e))
def w4.some {f:Bool} {H:Hp} {b:List (Dz×V×V)} (d:w4 f H a b):∃o,H a=some o:=by
 cases f with
 |true=>obtain ⟨o,e⟩:=d;exact ⟨_,e⟩
 |false=>exact ⟨_,d⟩
def w4.same {f:Bool} {H H':Hp} {b:List (Dz×V×V)} (d:w4 f H a b) (e:H' a=H a):w4 f H' a b:=by
 cases f with
 |true=>obtain ⟨o,z⟩:=d;exact ⟨o,e.trans z⟩
 |false=>exact e.trans d
def w4.rd {f:Bool} {e:List (Dz×V×V)} (d:w4 f H a e):Rd H a (.dct (OV a e)):=by
 cases f with
 |true=>obtain ⟨o,z⟩:=d;exact .inr ⟨o,z⟩
 |false=>exact .inl d
def FDs (K:Frag) (m:List Addr) (H:Hp):List (Str×D)→List (Str×V)→Prop
 |[],a=>a=[]
 |p::r,a=>∃v b,a=(p.1,v)::b∧DV K m H p.2 v∧FDs K m H r b
def FDs.keep {K:Frag} {m m':List Addr} (p:m <+:m') (k:Kp H H'):∀{fs:List (Str×D)} {a:List (Str×V)},FDs K m H fs a→FDs K m' H' fs a
 |[],_,h=>h
 |_::_,_,h=>by obtain ⟨v,r,e,d,t⟩:=h;exact ⟨v,r,e,d.keep p k,t.keep p k⟩
inductive wZ (K:Frag) (m:List Addr) (H:Hp) (n:Str) (fs:List (Str×D)) (a:Addr):Prop where
 |mk (C dx:Addr) (fv:List (Str×V)) (f1:nsIn K mainGlobals n=some (some (.ref C))) (f2:H a=some (.ins C dx fv)) (f3:FDs K m H fs fv):wZ K m H n fs a
def wZ.keep {K:Frag} {m m':List Addr} {H H':Hp} {fs:List (Str×D)} (x:wZ K m H n fs a) (p:m <+:m') (k:Kp H H') (e:H' a=H a):wZ K m' H' n fs a:=by obtain ⟨C,d,f,h,b,c⟩:=x;exact ⟨C,d,f,h,e.trans b,c.keep p k⟩
def L8 (K:Frag) (m:List Addr) (H:Hp):Cell→Addr→Prop
 |.lst d,a=>∃v,H a=some (.lst v)∧DVs K m H d v
 |.tabn g,a=>wM K g H a
 |.ins n fs,a=>wZ K m H n fs a
 |.dic f k,a=>∃e,w4 f H a e∧wY K m H k e
structure HR (K:Frag) (m:List Addr) (h:HD) (H:Hp):Prop where
 len:m.length=h.length
 nd:m.Nodup
 cells:∀(l:Nat) (c:Cell) (a:Addr),h[l]?=some c→m[l]?=some a→L8 K m H c a
def HR.at {l:Nat} {c:Cell} (r:HR K m h H) (e:h[l]?=some c):∃a,m[l]?=some a∧L8 K m H c a:=by
 have b:l<h.length:=(qa1.mp e).1;have:l<m.length:=by rw [r.len];exact b
 exact ⟨m[l],Bl this,r.cells l c _ e (Bl this)⟩
def HR.mem (r:HR K m h H) (f:a∈m):H a≠none:=by
 obtain ⟨l,d,rfl⟩:=IH f;have c:l<h.length:=by rw [←r.len];exact d
 have:=r.cells l h[l] m[l] (Bl c) (Bl d);cases b:h[l] with
 |lst i=>rw [b] at this;obtain ⟨v,e,_⟩:=this;rw [e];simp
 |ins n fs=>rw [b] at this;obtain ⟨_,_,_,_,e,_⟩:=this;rw [e];simp
 |tabn g=>rw [b] at this;obtain ⟨_,p,e,_⟩:=this;rw [e];simp
 |dic j k=>rw [b] at this;obtain ⟨q,e,_⟩:=this;obtain ⟨o,e⟩:=e.some;rw [e];simp
def HR.same (r:HR K m h H) (k:Kp H H') (s:∀a∈m,H' a=H a):HR K m h H':=by
 refine ⟨r.len,r.nd,fun l c a e q=>?_⟩;have b:a∈m:=FM q;have:=r.cells l c a e q;cases c with
 |lst o=>obtain ⟨v,d,f⟩:=this;exact ⟨v,by rw [s a b];exact d,f.keep (AI _) k⟩
 |tabn g=>exact wM.keep this k (s a b)
 |ins n fs=>exact wZ.keep this (AI _) k (s a b)
 |dic p i=>obtain ⟨j,d,f⟩:=this;exact ⟨j,d.same (s a b),f.keep (AI _) k⟩
def HR.new {o:HO} (r:HR K m h H) (b:H p=none):HR K m h (Av H p o):=
 r.same (.new b) fun a c=>AJ fun z=>r.mem c (z ▸ b)
def HR.newCell {o:HO} {c:Cell} (r:HR K m h H) (f:H p=none) (w:L8 K (m++[p]) (Av H p o) c p):HR K (m++[p]) (h++[c]) (Av H p o):=by
 have i:p∉m:=fun z=>r.mem z f;refine ⟨by simp [r.len],?_,fun l t a e q=>?_⟩
 ·rw [List.nodup_append];refine ⟨r.nd,by simp,fun a x b u=>?_⟩;rw [qaG] at u;subst u;intro z;subst z;exact i x
 ·by_cases j:l<m.length
  ·rw [EH j] at q;rw [EH (by rw [←r.len];exact j)] at e;have:=r.cells l t a e q;have d:a≠p:=fun z=>i (z ▸ FM q);cases t with
   |lst F=>obtain ⟨y,k,s⟩:=this;exact ⟨y,by rw [AJ d];exact k,s.keep (II _ _) (.new f)⟩
   |tabn g=>exact wM.keep this (.new f) (AJ d)
   |ins n fs=>exact wZ.keep this (II _ _) (.new f) (AJ d)
   |dic G A=>obtain ⟨B,k,s⟩:=this;exact ⟨B,k.same (AJ d),s.keep (II _ _) (.new f)⟩
  ·have v:m.length≤l:=IP j;rw [IF v] at q;rw [IF (by rw [←r.len];exact v)] at e;have C:l - m.length=0:=by
    cases E:l - m.length with
    |zero=>rfl
    |succ n=>rw [E] at q;simp at q
   rw [←r.len] at e;rw [C] at q e;simp at q e;subst q e;exact w
def HR.setCell {h:HD} {l:Nat} {o u:HO} {c:Cell} (r:HR K m h H) (s:m[l]?=some p) (k:H p=some o) (i:OT o=false) (x:L8 K m (Av H p u) c p):HR K m (h.set l c) (Av H p u):=by
 refine ⟨by simp [r.len],r.nd,fun j w a e q=>?_⟩
 by_cases t:j=l
 ·subst t;rw [s] at q;cases q;have v:j<h.length:=by rw [←r.len];exact (qa1.mp s).1
  rw [BP v] at e;cases e;exact x
 ·rw [BI (Ne.symm t)] at e;have:=r.cells j w a e q;have b:a≠p:=by intro z;subst z;obtain ⟨C,d⟩:=qa1.mp q;obtain ⟨E,f⟩:=qa1.mp s;exact t ((List.getElem_inj r.nd).mp (d.trans f.symm))
  cases w with
  |lst F=>obtain ⟨y,d,f⟩:=this;exact ⟨y,by rw [AJ b];exact d,f.keep (AI _) (.set k i)⟩
  |tabn g=>exact wM.keep this (.set k i) (AJ b)
  |ins n fs=>exact wZ.keep this (AI _) (.set k i) (AJ b)
  |dic G A=>obtain ⟨B,d,f⟩:=this;exact ⟨B,d.same (AJ b),f.keep (AI _) (.set k i)⟩
def ER (K:Frag) (m:List Addr) (H:Hp) (a:Ag) (b:L2.St):Prop:=a.length=b.length∧∀(i:Nat) (d:D),a[i]?=some (some d)→∃v,b[i]?=some (some v)∧DV K m H d v
def ER.keep (p:m <+:m') (k:Kp H H') (e:ER K m H c f):ER K m' H' c f:=⟨e.1,fun i d h=>let ⟨v,a,b⟩:=e.2 i d h;⟨v,a,b.keep p k⟩⟩
def ER.set {c:Ag} {g:L2.St} {i:Nat} (e:ER K m H c g) (r:DV K m H d v):ER K m H (c.set i (some d)) (g.set i (some v)):=by
 refine ⟨by simp [e.1],fun j l h=>?_⟩
 by_cases f:i=j
 ·subst f
  by_cases k:i<c.length
  ·rw [BP k] at h;cases h;exact ⟨v,by rw [BP (by rw [←e.1];exact k)],r⟩
  ·rw [Oc (by simp;omega)] at h;cases h
 ·rw [BI f] at h;obtain ⟨w,a,b⟩:=e.2 j l h;exact ⟨w,by rw [BI f];exact a,b⟩
def ER.start {N:List Str} {a:List D} (h:DVs K m H a c):ER K m H (a.map some++List.replicate (N.length - a.length) none) (L2.start N c):=by
 refine ⟨by simp [L2.start,h.len],fun i d e=>?_⟩
 by_cases b:i<a.length
 ·rw [EH (by simpa using b),Cg] at e;obtain ⟨f,g⟩:∃f,a[i]?=some f:=⟨a[i],Bl b⟩
  rw [g] at e;simp at e;subst e;obtain ⟨v,q,r⟩:=h.get g;refine ⟨v,?_,r⟩;unfold L2.start;rw [EH (by simpa [←h.len] using b),Cg,q];rfl
 ·rw [IF (by simpa using IP b)] at e;rw [N5] at e;split at e<;>cases e
def XD (K:Frag) (m:List Addr) (H:Hp) (fs:List (Str×D)) (c:Option Addr):Prop:=
 ∀f d,fs.lookup f=some d→∃a b v,c=some a∧H a=some (.xd b)∧b.lookup f=some v∧DV K m H d v
def wa {b c:Type} (K:Frag) (R:List Addr→Hp→b→c→Prop) (m:List Addr) (H:Hp) (E:XK) (Q:c→Hp→Prop):Out b→Prop
 |.ok a h=>∀v m' H',m <+:m'→Kp H H'→HR K m' h H'→R m' H' a v→Q v H'
 |.err C fs h=>∀d m' H',m <+:m'→Kp H H'→HR K m' h H'→XD K m' H' fs d→E C d H'
 |.stuck=>False
def wa.ahead {f g:Type} {R:List Addr→Hp→f→g→Prop} {Q:g→Hp→Prop} {o:Out f} (p:m <+:m') (k:Kp H H') (h:wa K R m H E Q o):wa K R m' H' E Q o:=by
 cases o with
 |ok a i=>exact fun v b c d e=>h v b c (p.trans d) (k.trans e)
 |err C fs i=>exact fun j b c d e=>h j b c (p.trans d) (k.trans e)
 |stuck=>exact h
def wa.bind {e g i j:Type} {R:List Addr→Hp→e→g→Prop} {l:List Addr→Hp→i→j→Prop} {Q:j→Hp→Prop} {q:g→Hp→Prop} {o:Out e} {k:e→HD→Out i} 
 (h:wa K l m H E Q (o.bind k)) (f:∀a c v d b,o=.ok a c→m <+:d→Kp H b→HR K d c b→R d b a v→wa K l d b E Q (k a c)→q v b):wa K R m H E q o:=by
 cases o with
 |ok a c=>exact fun v d b p n s r=>f a c v d b rfl p n s r (h.ahead p n)
 |err C fs c=>exact h
 |stuck=>exact h
def wa.mono {b c:Type} {R:List Addr→Hp→b→c→Prop} {Q q:c→Hp→Prop} {o:Out b} (h:wa K R m H E Q o) (f:∀v H',Q v H'→q v H'):wa K R m H E q o:=by
 cases o with
 |ok a d=>exact fun v e g p k i r=>f _ _ (h v e g p k i r)
 |err C fs d=>exact h
 |stuck=>exact h
end
abbrev TF:=List D→HD→Out D
abbrev ME:=Ag→HD→Out D
abbrev MT:=Ag→HD→Out Bool
abbrev MA:=Ag→HD→Out (List D)
inductive Fl where
 |nx |bk |ct |rt (d:D)
abbrev MS:=Ag→HD→Out (Fl×Ag)
def rD (K:Frag):List Addr→Hp→D→V→Prop:=fun m H d v=>DV K m H d v
def rB:List Addr→Hp→Bool→Bool→Prop:=fun _ _ a b=>a=b
def EO (K:Frag):List Addr→Hp→List D→List V→Prop:=fun m H d v=>DVs K m H d v
inductive tM {α β:Type} (K:Frag) (R:List Addr→Hp→α→β→Prop) (E:XK) (f:Ag→HD→Out α) (σ:L2.St) (H:Hp) (Q:β→Hp→Prop):Prop where
 |mk (m:List Addr) (ρ:Ag) (h:HD) (hr:HR K m h H) (er:ER K m H ρ σ) (p:wa K R m H E Q (f ρ h)):tM K R E f σ H Q
abbrev tD (K:Frag) (E:XK) (f:ME):TE:=tM K (rD K) E f
abbrev Fe (K:Frag) (E:XK) (f:MT):TT:=tM K rB E f
abbrev L9 (K:Frag) (E:XK) (f:MA):TA:=tM K (EO K) E f
def UX (K:Frag) (m:List Addr) (H:Hp) (D:Eb):Fl×Ag→Prop
 |(.nx,b)=>∀a,ER K m H b a→D.nx a H
 |(.bk,b)=>∀a,ER K m H b a→D.bk a H
 |(.ct,b)=>∀a,ER K m H b a→D.ct a H
 |(.rt d,_)=>∀v,DV K m H d v→D.rt v H
def wg (K:Frag) (m:List Addr) (H:Hp) (E:XK) (D:Eb):Out (Fl×Ag)→Prop
 |.ok a c=>∀b h,m <+:b→Kp H h→HR K b c h→UX K b h D a
 |.err C fs c=>∀d b h,m <+:b→Kp H h→HR K b c h→XD K b h fs d→E C d h
 |.stuck=>False
inductive Ko (K:Frag) (E:XK) (g:MS) (D:Eb) (σ:L2.St) (H:Hp):Prop where
 |mk (m:List Addr) (ρ:Ag) (h:HD) (hr:HR K m h H) (er:ER K m H ρ σ) (p:wg K m H E D (g ρ h)):Ko K E g D σ H
def wg.ahead {K:Frag} {m f:List Addr} {D:Eb} {o:Out (Fl×Ag)} (p:m <+:f) (k:Kp H g) (h:wg K m H E D o):wg K f g E D o:=by
 cases o with
 |ok a i=>exact fun b c d e=>h b c (p.trans d) (k.trans e)
 |err C fs i=>exact fun j b c d e=>h j b c (p.trans d) (k.trans e)
 |stuck=>exact h
abbrev Ev (X:Cx) (E:XK) (e:Expr) (f:ME):Prop:=PE X e (tD X.K E f)
abbrev Ee (X:Cx) (E:XK) (e:Expr) (f:MT):Prop:=PT X e (Fe X.K E f)
abbrev CU (X:Cx) (E:XK) (e:List Expr) (f:MA):Prop:=PA X e (L9 X.K E f)
abbrev Ex (X:Cx) (E:XK) (st:Stmt) (g:MS):Prop:=PS X st (Ko X.K E g)
abbrev Df (X:Cx) (E:XK) (s:List Stmt) (g:MS):Prop:=DF X s (Ko X.K E g)
section
variable {X:Cx}
def BR {t b:TE} (h:PE X e t) (i:∀a H Q,b a H Q→t a H Q):PE X e b:=fun p s a H Q I q=>h p s a H Q I (i a H Q q)
def Ma {t b:TT} (h:PT X e t) (i:∀a H Q,b a H Q→t a H Q):PT X e b:=fun p s a H Q I q=>h p s a H Q I (i a H Q q)
def UY {t b:TA} (h:PA X e t) (i:∀a H Q,b a H Q→t a H Q):PA X e b:=fun pos p s a H Q I q=>h pos p s a H Q I (i a H Q q)
def DO {e:Stmt} {t b:TS} (h:PS X e t) (i:∀D a H,b D a H→t D a H):PS X e b:=fun p s a H D I q=>h p s a H D I (i D a H q)
def OW {e:List Stmt} {t b:TS} (h:DF X e t) (i:∀D a H,b D a H→t D a H):DF X e b:=fun p s a H D I q=>h p s a H D I (i D a H q)
end
section
variable {X:Cx} {E:XK} {a b c:Expr} {pos:Pos} {f g k:ME}
def Ad (i:Nat):ME:=fun ρ h=>match ρ[i]? with
 |some (some d)=>.ok d h
 |_=>.stuck
def UZ {i:Nat} (h:PE X a (Uj i)):Ev X E a (Ad i):=BR h fun o H Q z=>by
 obtain ⟨m,q,s,j,l,p⟩:=z;unfold Ad at p;split at p
 ·rename_i d e;obtain ⟨v,n,r⟩:=l.2 i d e;exact ⟨v,n,p v m H (AI _) (.refl _) j r⟩
 ·exact p.elim
def mC (d:D):ME:=fun _ h=>.ok d h
def Hk (h:PE X a (tC v)) (r:∀m H,DV X.K m H d v):Ev X E a (mC d):=BR h fun i H Q z=>by obtain ⟨m,j,l,e,n,p⟩:=z;exact (p v m H (AI _) (.refl _) e (r m H))
def fm {i:Int} {j:Nat}:Ev X E (.Constant (.int i) j pos) (mC (.int i)):=Hk aR fun _ _=>by simp [DV]
def fq {i:Bool} {j:Nat}:Ev X E (.Constant (.bool i) j pos) (mC (.bl i)):=Hk aS fun _ _=>by simp [DV]
def ft {j:Nat}:Ev X E (.Constant .none j pos) (mC .non):=Hk aU fun _ _=>by simp [DV]
def fu {j:Nat}:Ev X E (.Constant (.str x) j pos) (mC (.str x)):=Hk Ul fun _ _=>by simp [DV]
def fw {i:Int} {t:Tok} (h:Gl X x) (d:X.mg x=some (.int i t)) (e:(x==("__debug__":Str))=false:=by decide):Ev X E (.Name x pos) (mC (.int i)):=
 Hk (OB (v:=.int i) h d ⟨t,rfl⟩ e) fun _ _=>by simp [DV]
def Aa (o:D→D→HD→Out D) (f g:ME):ME:=fun ρ h=>(f ρ h).bind fun x d=>(g ρ d).bind fun y e=>o x y e
def Kq {o:D→D→HD→Out D} {R:V→V→Hp→Prop} (h:tD X.K E (Aa o f g) j H Q)
 (i:∀m d e x y v u,HR X.K m e d→DV X.K m d x v→DV X.K m d y u→wa X.K (rD X.K) m d E Q (o x y e)→R v u d):tD X.K E f j H fun v q=>tD X.K E g j q fun u d=>R v u d:=by
 obtain ⟨m,r,t,w,s,p⟩:=h;refine ⟨m,r,t,w,s,wa.bind p fun x z v A q _ B C l F G=>?_⟩;refine ⟨A,r,z,l,s.keep B C,wa.bind G fun y e u I d _ J L n M N=>?_⟩;exact i I d e x y v u n (DV.keep J L F) M N
def BC (X:Cx) (f:Value→Value→Sem Value) (o:D→D→HD→Out D):Prop:=
 ∃r:R2,OpR X f r∧∀m H h E x y v u Q,HR X.K m h H→DV X.K m H x v→DV X.K m H y u→wa X.K (rD X.K) m H E Q (o x y h)→r v u H Q
def Hl {o:Operator} {e:D→D→HD→Out D} (d:BC X (binaryOp o) e) (j:Ev X E a f) (l:Ev X E b g):Ev X E (.BinOp a o b pos) (Aa e f g):=by obtain ⟨r,d,i⟩:=d;exact BR (cj d j l) fun z H Q h=>Kq h fun m n p x y v u s t w q=>i m n p E x y v u Q s t w q
def IZ {o:CmpOp} {e:D→D→HD→Out D} (d:BC X (compareOp o) e) (j:Ev X E a f) (l:Ev X E b g) (n:behindInMarks o b=false):Ev X E (.Compare a [o] [b] pos) (Aa e f g):=by obtain ⟨r,d,i⟩:=d;exact BR (cH d j l n) fun A H Q h=>Kq h fun m p s x y v u t w z q=>i m p s E x y v u Q t w z q
def I0:D→HD→Out Bool
 |.bl b,h=>.ok b h
 |_,_=>.stuck
def Aq (f:ME):MT:=fun d h=>(f d h).bind I0
def U0 {Q:Bool→Hp→Prop} (d:HR X.K m h H) (r:DV X.K m H x v) (q:wa X.K rB m H E Q (I0 x h)):∃k,v=.bl k∧Q k H:=by
 cases x with
 |bl b=>simp only [DV] at r;exact ⟨b,r,q b m H (AI _) (.refl _) d rfl⟩
 |_=>exact q.elim
def Hm {o:CmpOp} {d:D→D→HD→Out D} (e:BC X (compareOp o) d) (n:Ev X E a f) (s:Ev X E b g) (t:behindInMarks o b=false):Ee X E (.Compare a [o] [b] pos) (Aq (Aa d f g)):=by
 obtain ⟨r,e,i⟩:=e;refine Ma (cI e n s t) fun w H Q h=>?_;obtain ⟨m,z,A,j,B,p⟩:=h;have C:tD X.K E (Aa d f g) w H fun x F=>∃k,x=.bl k∧Q k F:=
  ⟨m,z,A,j,B,wa.bind p fun x O v P R _ S T l G I=>U0 l G I⟩
 exact Kq C fun m J L x y v u j M N q=>i m J L E x y v u _ j M N q
noncomputable def Ef:D→HD→Out Bool
 |.non,h=>.ok false h
 |.bl b,h=>.ok b h
 |.int i,h=>.ok (i != 0) h
 |.tup d,h=>.ok (!d.isEmpty) h
 |.loc l,h=>match h[l]? with
  |some (.lst d)=>.ok (!d.isEmpty) h
  |_=>.stuck
 |_,_=>.stuck
def B7 (f:ME):MT:=fun d h=>(f d h).bind Ef
def U1 {d e:Type} {x:List d} {y:List e} (h:x.length=y.length):x.isEmpty=y.isEmpty:=by cases x<;>cases y<;>simp_all
def fx {Q:Bool→Hp→Prop} (o:HR X.K m h H) (r:DV X.K m H x v) (q:wa X.K rB m H E Q (Ef x h)):∃k,OJ X.K v H k∧Q k H:=by
 have d:∀k,Ef x h=.ok k h→Q k H:=fun k e=>by rw [e] at q;exact q k m H (AI _) (.refl _) o rfl
 cases x with
 |non=>simp only [DV] at r;subst r;exact ⟨false,rfl,d _ rfl⟩
 |bl b=>simp only [DV] at r;subst r;exact ⟨b,rfl,d _ rfl⟩
 |int i=>simp only [DV] at r;subst r;exact ⟨_,rfl,d _ rfl⟩
 |str x=>exact q.elim
 |tup u=>simp only [DV] at r;obtain ⟨p,j,rfl,s,t⟩:=r;exact ⟨_,.inr ⟨j,tq s,rfl⟩,by rw [←U1 t.len];exact d _ rfl⟩
 |loc l=>
  simp only [DV] at r;obtain ⟨p,rfl,s⟩:=r;simp only [Ef] at q;split at q
  ·rename_i u e;obtain ⟨j,w,t⟩:=o.cells l _ p e s;exact ⟨_,.inl ⟨j,SqL.of w,rfl⟩,by rw [←U1 t.len];exact q _ m H (AI _) (.refl _) o rfl⟩
  ·exact q.elim
 |scr y=>exact q.elim
 |adr a=>exact q.elim
 |ty a=>exact q.elim
 |exc n fs=>exact q.elim
 |edic=>exact q.elim
 |glo n=>exact q.elim
 |clo a j u=>exact q.elim
def fy (d:Ev X E a f) (e:∀E6,isTrue a X.env E6=(do let v ←E6;standAt a.pos;holding [v] (truthy v)):=by intro _;rfl):Ee X E a (B7 f):=
 Ma (cM d e) fun o H Q z=>by obtain ⟨m,i,j,l,n,p⟩:=z;exact (⟨m,i,j,l,n,wa.bind p fun x s v t u _ w y h r q=>fx h r q⟩)
variable {tf tg:MT} {rest:List Expr}
def Gr (f g:MT):MT:=fun d h=>(f d h).bind fun b e=>if b=true then .ok true e else g d e
def Cq (f:MT):MT:=fun d h=>(f d h).bind fun b e=>.ok (!b) e
abbrev Mb (X:Cx) (E:XK) (e:Expr) (f:MT):Prop:=PW X e (Fe X.K E f)
def fA {t j:TT} (h:PW X e t) (i:∀d H Q,j d H Q→t d H Q):PW X e j:=fun w p s d H Q I q=>h w p s d H Q I (i d H Q q)
def fB (h:Ee X E a tf):Mb X E (.BoolOp .Or [a] pos) tf:=aY h
def U2 (j:Ee X E a tf) (l:Mb X E (.BoolOp .Or (b::rest) pos) tg):Mb X E (.BoolOp .Or (a::b::rest) pos) (Gr tf tg):=
 fA (aZ j l) fun y H Q z=>by obtain ⟨m,d,n,o,e,p⟩:=z;exact (⟨m,d,n,o,e,wa.bind p fun x r v i s _ t u h w q=>by
  cases w;cases x with
  |false=>exact ⟨i,d,r,h,e.keep t u,q⟩
  |true=>exact q true i s (AI _) (.refl _) h rfl⟩)
def fF (h:Mb X E a tf):Ee X E a tf:=PW.pt h
def fG (d:Ee X E a tf):Ee X E (.UnaryOp .Not a pos) (Cq tf):=
 Ma (ba d) fun s H Q z=>by obtain ⟨m,e,i,j,l,p⟩:=z;exact (⟨m,e,i,j,l,wa.bind p fun x t v n o _ u w h r q=>by cases r;exact q _ n o (AI _) (.refl _) h rfl⟩)
def C0 (f g:ME):ME:=fun d h=>(f d h).bind fun x e=>match x with
 |.bl true=>g d e
 |.bl false=>.ok (.bl false) e
 |_=>.stuck
def U3 (f:ME):ME:=fun d h=>(f d h).bind fun x e=>match x with
 |.bl b=>.ok (.bl (!b)) e
 |_=>.stuck
def fH {o:BoolOp} (h:Ev X E a f):Ev X E (.BoolOp o [a] pos) f:=bf h
def fJ (j:Ev X E a f) (l:Ev X E (.BoolOp .And (b::rest) pos) g):Ev X E (.BoolOp .And (a::b::rest) pos) (C0 f g):=
 BR (bg j l) fun y H Q ⟨m,d,n,o,e,p⟩=>⟨m,d,n,o,e,wa.bind p fun x r v i s _ t u h w q=>by
  cases x with
  |bl b=>
   refine ⟨b,by simpa [rD,DV] using w,?_⟩;cases b with
   |true=>exact ⟨i,d,r,h,e.keep t u,q⟩
   |false=>exact q _ i s (AI _) (.refl _) h (by simp [rD,DV])
  |_=>exact q.elim⟩
def fK (d:Ev X E a f):Ev X E (.UnaryOp .Not a pos) (U3 f):=
 BR (bh d) fun s H Q z=>by obtain ⟨m,e,i,j,l,p⟩:=z;exact (⟨m,e,i,j,l,wa.bind p fun x t v n o _ u w h r q=>by
  cases x with
  |bl b=>exact ⟨b,by simpa [rD,DV] using r,q _ n o (AI _) (.refl _) h (by simp [rD,DV])⟩
  |_=>exact q.elim⟩)
def Dg (t:MT) (f g:ME):ME:=fun d h=>(t d h).bind fun b e=>if b=true then f d e else g d e
def fM (o:Ee X E c tf) (r:Ev X E a f) (s:Ev X E b g):Ev X E (.IfExp c a b pos) (Dg tf f g):=
 BR (bo o r s) fun y H Q z=>by obtain ⟨m,d,t,u,e,p⟩:=z;exact (⟨m,d,t,u,e,wa.bind p fun x i v j A _ l n h w q=>by
  cases w;cases x with
  |true=>exact ⟨j,d,i,h,e.keep l n,q⟩
  |false=>exact ⟨j,d,i,h,e.keep l n,q⟩⟩)
noncomputable def Gs (i o:D→D→HD→Out D) (f g k:ME):ME:=fun d h=>(f d h).bind fun x j=>(g d j).bind fun y l=>(i x y l).bind fun z e=>match z with
 |.bl true=>(k d e).bind fun w m=>o y w m
 |.bl false=>.ok (.bl false) e
 |_=>.stuck
def U4 {r A:R2} {B d:D→D→HD→Out D} {o o':Value→Value→Sem Value} (i:∀m H h E x y v u Q,HR X.K m h H→DV X.K m H x v→DV X.K m H y u→wa X.K (rD X.K) m H E Q (B x y h)→r v u H Q)
 (P:∀m H h E x y v u Q,HR X.K m h H→DV X.K m H x v→DV X.K m H y u→wa X.K (rD X.K) m H E Q (d x y h)→A v u H Q) {C:L2.St} {H:Hp} {Q:VK} (h:tD X.K E (Gs B d f g k) C H Q):
 OI r A (tD X.K E f) (tD X.K E g) (tD X.K E k) C H Q:=by
 obtain ⟨m,j,R,S,l,p⟩:=h;refine ⟨m,j,R,S,l,wa.bind p fun x T v U H1 _ F G n W Y=>?_⟩;refine ⟨U,j,T,n,l.keep F G,wa.bind Y fun y Z u m2 H2 _ I J q L q2=>?_⟩;refine i m2 H2 Z E x y v u _ q (DV.keep I J W) L (wa.bind q2 fun z h3 w M H3 _ N O e r3 s=>?_);cases z with
 |bl b=>
  refine ⟨b,by simpa [rD,DV] using r3,?_⟩;cases b with
  |false=>exact s _ M H3 (AI _) (.refl _) e (by simp [rD,DV])
  |true=>refine ⟨M,j,h3,e,((l.keep F G).keep I J).keep N O,wa.bind s fun z h4 w' m4 H4 _ p4 k4 t r4 q4=>?_⟩;exact P m4 H4 h4 E y z u w' Q t (DV.keep p4 k4 (DV.keep N O L)) r4 q4
 |_=>exact s.elim
def fQ {o j:CmpOp} {m e:D→D→HD→Out D} (l:BC X (compareOp o) m) (d:BC X (compareOp j) e) (n:Ev X E a f) (p:Ev X E b g) (q:Ev X E c k)
 (s:lastMarks [o,j] [b,c]=false:=by with_unfolding_all rfl):Ev X E (.Compare a [o,j] [b,c] pos) (Gs m e f g k):=by
 obtain ⟨r,l,i⟩:=l;obtain ⟨u,d,t⟩:=d;exact BR (cJ l d n p q s) fun v H Q h=>U4 (o:=compareOp o) (o':=compareOp j) i t h
def fR {o j:CmpOp} {q e:D→D→HD→Out D} (l:BC X (compareOp o) q) (d:BC X (compareOp j) e) (s:Ev X E a f) (t:Ev X E b g) (u:Ev X E c k)
 (w:lastMarks [o,j] [b,c]=false:=by with_unfolding_all rfl):Ee X E (.Compare a [o,j] [b,c] pos) (Aq (Gs q e f g k)):=by
 obtain ⟨r,l,i⟩:=l;obtain ⟨I,d,y⟩:=d;refine Ma (cK l d s t u w) fun J H Q h=>?_;obtain ⟨m,z,A,B,C,p⟩:=h;exact U4 (o:=compareOp o) (o':=compareOp j) i y ⟨m,z,A,B,C,wa.bind p fun x L v M N _ O P n F G=>U0 n F G⟩
variable {es:List Expr} {fa:MA}
def Af:MA:=fun _ h=>.ok [] h
def Ac (f:ME) (r:MA):MA:=fun ρ h=>(f ρ h).bind fun x d=>(r ρ d).bind fun xs e=>.ok (x::xs) e
def Kr:CU X E [] Af:=UY dr fun d H Q z=>by obtain ⟨m,e,i,h,j,p⟩:=z;exact (p [] m H (AI _) (.refl _) h .nil)
def Ja (l:Ev X E a f) (h:CU X E es fa) (n:starEach (a::es) X.env=(false,eval a X.env)::starEach es X.env:=by rfl):CU X E (a::es) (Ac f fa):=
 UY (dt l h n) fun I H Q z=>by obtain ⟨m,i,o,h,j,p⟩:=z;exact (⟨m,i,o,h,j,wa.bind p fun x q v r J _ s t d u w=>⟨r,i,q,d,j.keep s t,wa.bind w fun L M N y A _ B C e F G=>G _ y A (AI _) (.refl _) e (DVs.cons (DV.keep B C u) F)⟩⟩)
def AR (fa:MA):ME:=fun ρ h=>(fa ρ h).bind fun x d=>if x.length≤sizeLine then .ok (.tup x) d else .stuck
def BG (xs:List D) (h:HD):Out D:=if xs.length≤sizeLine then .ok (.loc h.length) (h++[.lst xs]) else .stuck
def AO (fa:MA):ME:=fun d h=>(fa d h).bind BG
def Ho {H:Hp} {Q:VK} (e:HR X.K m h H) (r:DVs X.K m H x vs) (q:wa X.K (rD X.K) m H E Q (.ok (.tup x) h)):∀p,H p=none→Q (.ref p) (Av H p (.tup vs)):=fun p d=>q (.ref p) m _ (AI _) (.new d) (e.new d) (by simp only [rD,DV];exact ⟨p,vs,rfl,.inl CA,r.keep (AI _) (.new d)⟩)
def Gu {H:Hp} {v:List V} {Q:VK} (i:HR X.K m h H) (r:DVs X.K m H x v) (q:wa X.K (rD X.K) m H E Q (BG x h)):v.length≤sizeLine∧∀p,H p=none→Q (.ref p) (Av H p (.lst v)):=by
 unfold BG at q
 by_cases d:x.length≤sizeLine
 ·rw [if_pos d] at q;refine ⟨by rw [←r.len];exact d,fun p e=>?_⟩;refine q (.ref p) (m++[p]) _ (II _ _) (.new e) (i.newCell e ⟨v,CA,r.keep (II _ _) (.new e)⟩) ?_;simp only [rD,DV];exact ⟨p,rfl,by rw [←i.len];simp⟩
 ·rw [if_neg d] at q;exact q.elim
def fU {x:Nat} (h:CU X E es fa):Ev X E (.Tuple es x pos) (AR fa):=
 BR (dy h) fun s H Q z=>by obtain ⟨m,i,j,l,n,p⟩:=z;exact (⟨m,i,j,l,n,wa.bind p fun o t v u w _ y A d r q=>by
  by_cases e:o.length≤sizeLine
  ·rw [if_pos e] at q;exact ⟨by rw [←DVs.len r];exact e,Ho d r q⟩
  ·rw [if_neg e] at q;exact q.elim⟩)
def fV (h:CU X E es fa):Ev X E (.List es pos) (AO fa):=
 BR (dz h) fun n H Q z=>by obtain ⟨m,e,i,j,l,p⟩:=z;exact (⟨m,e,i,j,l,wa.bind p fun x o v s t _ u w d r q=>Gu d r q⟩)
inductive Mc (K:Frag) (F:TF) (vs:List V) (H:Hp) (Q:VK) (E:XK):Prop where
 |mk (m:List Addr) (ds:List D) (h:HD) (hr:HR K m h H) (r:DVs K m H ds vs) (p:wa K (rD K) m H E0 Q (F ds h)):Mc K F vs H Q E
def Ar (n:Nat) (F:TF):Prop:=∀d h,d.length≠n→F d h=.stuck
def Ar.len {K:Frag} {n:Nat} {F:TF} (i:Ar n F) {v:List V} {H:Hp} {Q:VK} {j:XK} (h:Mc K F v H Q j):v.length=n:=by
 obtain ⟨m,d,l,o,r,p⟩:=h;rw [←r.len]
 by_cases e:d.length=n
 ·exact e
 ·rw [i d l e] at p;exact p.elim
def Ai (F:D→HD→Out D):TF:=fun d h=>match d with
 |[a]=>F a h
 |_=>.stuck
def Bo (F:D→D→HD→Out D):TF:=fun d h=>match d with
 |[a,b]=>F a b h
 |_=>.stuck
def fW (F:D→D→D→HD→Out D):TF:=fun d h=>match d with
 |[a,b,c]=>F a b c h
 |_=>.stuck
def Ab (F:TF) (fa:MA):ME:=fun d h=>(fa d h).bind F
def C1 (X:Cx) (f:Value) (F:TF):Prop:=
 ∃r:List V→Hp→VK→Prop,De X f r∧∀m H h E d v Q,HR X.K m h H→DVs X.K m H d v→wa X.K (rD X.K) m H E Q (F d h)→r v H Q
def fX {id:String} {F:TF} {x:Str} {e:Expr} (h:C1 X (.builtin id) F) (n:Gl X x) (o:X.mg x=none) (q:bootBuiltins x=some (.builtin id)) (s:CU X E (e::es) fa) (t:x≠"__name__":=by decide) (d:(x==("__debug__":Str))=false:=by decide)
 (u:starEach (e::es) X.env=(false,eval e X.env)::starEach es X.env:=by rfl) (j:(backTo pos (starEach es X.env)).any (·.1)=false:=by rfl):Ev X E (.Call (.Name x p) (e::es) [] pos) (Ab F fa):=by
 obtain ⟨r,h,i⟩:=h;exact BR (dI h n o q s t d u j) fun N H Q z=>by obtain ⟨m,v,w,y,A,p⟩:=z;exact (⟨m,v,w,y,A,wa.bind p fun B C G I J O P R l L M=>i I J C E B G Q l L M⟩)
def fY {id:String} {F:TF} {x:Str} {e:Expr} (h:C1 X (.type id) F) (n:Gl X x) (o:X.mg x=none) (q:bootBuiltins x=some (.type id)) (s:CU X E (e::es) fa) (t:x≠"__name__":=by decide) (d:(x==("__debug__":Str))=false:=by decide)
 (u:starEach (e::es) X.env=(false,eval e X.env)::starEach es X.env:=by rfl) (j:(backTo pos (starEach es X.env)).any (·.1)=false:=by rfl):Ev X E (.Call (.Name x p) (e::es) [] pos) (Ab F fa):=by
 obtain ⟨r,h,i⟩:=h;exact BR (dJ h n o q s t d u j) fun N H Q z=>by obtain ⟨m,v,w,y,A,p⟩:=z;exact (⟨m,v,w,y,A,wa.bind p fun B C G I J O P R l L M=>i I J C E B G Q l L M⟩)
end
section
variable {X:Cx} {E:XK}
def Bb {K:Frag} {Q:VK} (a:HR K m h H) (q:wa K (rD K) m H E Q (.ok d h)) (r:DV K m H d v):Q v H:=q v m H (AI _) (.refl _) a r
def op_catT0:OpR X (binaryOp .Add) (fun x y H Q=>∃a b j,x=.ref a∧y=.ref b∧SqT X.K H a []∧SqT X.K H b j∧Q (.ref b) H):=by
 intro p s O H x y v u Q I t w h;obtain ⟨a,b,j,rfl,rfl,z,A,q⟩:=h;cases t;cases w;obtain ⟨B,C,F,_⟩:=I.tuple z;obtain ⟨i,P,G,_⟩:=I.tuple A;cases C;obtain ⟨⟨J,L,k,M⟩,l,m,n,o⟩:=id F;obtain ⟨⟨r,f,data2,g⟩,c,d,N,e⟩:=id G;simp only at m o d e;subst m o d e;exact concat_meets ⟨_,l,rfl⟩ ⟨_,c,rfl⟩ noFill_tuple_add seq_tuple_add PySem.F.slot_tuple_add PySem.F.entry_tuple_add (PySem.F.args_tuple_add_2 _ _)
  (tuple_addW0 a b _ i.toArray n N L f M g (by simp)) ⟨l,c,⟨.ref b,H,I,rfl,q⟩⟩
noncomputable def Ao:D→D→HD→Out D
 |.int i,.int j,h=>.ok (.int (i+j)) h
 |.str x,.str y,h=>if x.length+y.length≤sizeLine then .ok (.str (x++y)) h else .stuck
 |.tup xs,.tup a,h=>if xs.length+a.length≤sizeLine then .ok (.tup (xs++a)) h else .stuck
 |.loc l,.loc k,h=>match h[l]?,h[k]? with
  |some (.lst xs),some (.lst a)=>BG (xs++a) h
  |_,_=>.stuck
 |_,_,_=>.stuck
def fZ:BC X (binaryOp .Add) Ao:=by
 refine ⟨_,op_add.or (op_catT0.or (op_catT.or (op_cat.or cN))),fun m H h E x y v u Q c r d q=>?_⟩;unfold Ao at q;split at q
 ·simp only [DV] at r d;subst r d;exact .inl ⟨_,_,rfl,rfl,Bb c q (by simp [DV])⟩
 ·simp only [DV] at r d;subst r d;split at q
  ·rename_i l;exact .inr (.inr (.inr (.inr ⟨_,_,rfl,rfl,l,Bb c q (by simp [DV])⟩)))
  ·exact q.elim
 ·rename_i n o;simp only [DV] at r d;obtain ⟨a,j,rfl,g,f⟩:=r;obtain ⟨b,w,rfl,i,k⟩:=d;split at q
  ·rename_i l;cases n with
   |nil=>simp only [DVs] at f;subst f;exact .inr (.inl ⟨a,b,w,rfl,rfl,tq g,tq i,Bb c q (by simp only [DV];exact ⟨b,w,rfl,i,k⟩)⟩)
   |cons x n=>
    refine .inr (.inr (.inl ⟨a,b,j,w,rfl,rfl,tq g,tq i,?_,by rw [←f.len,←k.len];exact l,fun e=>?_,fun e=>?_⟩))
    ·intro e;have:=f.len;rw [e] at this;simp at this
    ·subst e;have:o=[]:=by have:=k.len;simpa using this
     subst this;exact Bb c q (by simp only [DV];exact ⟨a,j,rfl,g,by simpa using f⟩)
    ·exact Ho c (f.app k) q
  ·exact q.elim
 ·simp only [DV] at r d;obtain ⟨a,rfl,g⟩:=r;obtain ⟨b,rfl,i⟩:=d;split at q
  ·rename_i n o p s;obtain ⟨j,t,A⟩:=c.cells _ _ a p g;obtain ⟨w,B,C⟩:=c.cells _ _ b s i;obtain ⟨z,F⟩:=Gu c (A.app C) q;exact .inr (.inr (.inr (.inl ⟨a,b,j,w,rfl,rfl,t,B,by simpa using z,F⟩)))
  ·exact q.elim
 ·exact q.elim
noncomputable def intD (f:Int→Int→D) (c:Int→Int→Prop) [∀i j,Decidable (c i j)]:D→D→HD→Out D
 |.int i,.int j,h=>if c i j then .ok (f i j) h else .stuck
 |_,_,_=>.stuck
def OX {o:Value→Value→Sem Value} {f:Int→Int→V} {g:Int→Int→D} {c a:Int→Int→Prop} [∀i j,Decidable (a i j)] (h:OpR X o (rI c f)) (e:∀i j,a i j→c i j) (k:∀m H i j,DV X.K m H (g i j) (f i j)):BC X o (intD g a):=by
 refine ⟨_,h,fun m H h E x y v u Q l r d q=>?_⟩;unfold intD at q;split at q
 ·simp only [DV] at r d;subst r d;split at q
  ·rename_i b;exact ⟨_,_,rfl,rfl,e _ _ b,Bb l q (k _ _ _ _)⟩
  ·exact q.elim
 ·exact q.elim
def FQ (f:Int→Int→D):D→D→HD→Out D
 |.int i,.int j,h=>.ok (f i j) h
 |_,_,_=>.stuck
def Jb {o:Value→Value→Sem Value} {f:Int→Int→V} {g:Int→Int→D} (h:OpR X o (E9 f)) (b:∀m H i j,DV X.K m H (g i j) (f i j)):BC X o (FQ g):=by
 refine ⟨_,h,fun m H h E x y v u Q c r a q=>?_⟩;unfold FQ at q;split at q
 ·simp only [DV] at r a;subst r a;exact ⟨_,_,rfl,rfl,Bb c q (b _ _ _ _)⟩
 ·exact q.elim
abbrev Cw:=FQ fun i j=>.int (i - j)
def f7:BC X (binaryOp .Sub) Cw:=Jb cm fun _ _ _ _=>by simp [DV]
abbrev Dh:=FQ fun i j=>.bl (decide (i<j))
abbrev Ks:=FQ fun i j=>.bl (decide (i≤j))
abbrev Gv:=FQ fun i j=>.bl (decide (j<i))
abbrev Jc:=FQ fun i j=>.bl (decide (j≤i))
def Md:BC X (compareOp .Lt) Dh:=Jb cA fun _ _ _ _=>by simp [DV]
def U5:BC X (compareOp .LtE) Ks:=Jb cB fun _ _ _ _=>by simp [DV]
def f9:BC X (compareOp .Gt) Gv:=Jb cC fun _ _ _ _=>by simp [DV]
def gb:BC X (compareOp .GtE) Jc:=Jb cD fun _ _ _ _=>by simp [DV]
instance (i j:Int):Decidable (CMul i j):=by unfold CMul;infer_instance
instance (i j:Int):Decidable (Ut i j):=by unfold Ut;infer_instance
instance (i j:Int):Decidable (Kl i j):=by unfold Kl;infer_instance
abbrev DA:=intD (fun i j=>.int (i % j)) fun _ j=>0<j
def gc:BC X (binaryOp .Mod) DA:=OX cp (fun _ _ h=>h) fun _ _ _ _=>by simp [DV]
abbrev Ff:=intD (fun i j=>.int (i*2^j.toNat)) Kl
def gf:BC X (binaryOp .LShift) Ff:=OX cq (fun _ _ h=>h) fun _ _ _ _=>by simp [DV]
def op_isB:OpR X (compareOp .Is) (fun x y H Q=>∃b c,x=.bl b∧y=.bl c∧Q (.bl (b==c)) H):=by intro p s d H x y v u Q I r a h;obtain ⟨b,c,rfl,rfl,q⟩:=h;cases r;cases a;exact wpAny_is_plain rfl ⟨.bl _,H,I,by cases b<;>cases c<;>rfl,q⟩
def op_isnotB:OpR X (compareOp .IsNot) (fun x y H Q=>∃b c,x=.bl b∧y=.bl c∧Q (.bl (!(b==c))) H):=by intro p s d H x y v u Q I r a h;obtain ⟨b,c,rfl,rfl,q⟩:=h;cases r;cases a;exact wpAny_isNot_plain rfl ⟨.bl _,H,I,by cases b<;>cases c<;>rfl,q⟩
def OY:D→Bool
 |.non=>true
 |_=>false
def Hq:D→D→HD→Out D
 |.bl b,.bl c,h=>.ok (.bl (b==c)) h
 |x,.non,h=>.ok (.bl (OY x)) h
 |_,_,_=>.stuck
noncomputable def Eg:D→D→HD→Out D
 |.bl b,.bl c,h=>.ok (.bl (!(b==c))) h
 |x,.non,h=>.ok (.bl (!OY x)) h
 |_,_,_=>.stuck
def U6 (r:DV X.K m H x v):decide (v=.non)=OY x:=by cases x<;>simp only [DV] at r<;>first |(subst r;rfl) |(obtain ⟨_,rfl,_⟩:=r;rfl) |(obtain ⟨_,_,rfl,_⟩:=r;rfl) |(obtain ⟨_,_,_,rfl,_⟩:=r;rfl) |(obtain ⟨rfl,_⟩:=r;rfl)
def gh:BC X (compareOp .Is) Hq:=by
 refine ⟨_,op_isB.or cF,fun m H h E x y v u Q b a r q=>?_⟩;unfold Hq at q;split at q
 ·simp only [DV] at a r;subst a r;exact .inl ⟨_,_,rfl,rfl,Bb b q (by simp [DV])⟩
 ·simp only [DV] at r;subst r;exact .inr ⟨rfl,Bb b q (by simp [DV,U6 a])⟩
 ·exact q.elim
def U7:BC X (compareOp .IsNot) Eg:=by
 refine ⟨_,op_isnotB.or cG,fun m H h E x y v u Q b a r q=>?_⟩;unfold Eg at q;split at q
 ·simp only [DV] at a r;subst a r;exact .inl ⟨_,_,rfl,rfl,Bb b q (by simp [DV])⟩
 ·simp only [DV] at r;subst r;exact .inr ⟨rfl,Bb b q (by simp [DV,U6 a])⟩
 ·exact q.elim
end
noncomputable def Bp {b:Type}:List (Option b)→Option (List b)
 |[]=>some []
 |none::_=>none
 |some a::r=>(Bp r).map (a::·)
noncomputable def Be (h:HD):Nat→D→Option PyData
 |_,.non=>some .none
 |_,.bl b=>some (.bool b)
 |_,.int i=>some (.int i)
 |_,.str x=>some (.str x)
 |n+1,.tup d=>(Bp (d.map (Be h n))).map .tuple
 |n+1,.loc l=>match h[l]? with
  |some (.lst d)=>(Bp (d.map (Be h n))).map .list
  |_=>none
 |_,_=>none
section
variable {X:Cx} {E:XK} {pins:PQ} {σ:L2.St} {H:Hp} {s:Shared} {m:List Addr} {h:HD}
def OZ {n:Nat} (l:∀(d:D) (v:V) (u:Value) (p:PyData),DV X.K m H d v→RelV v u→Be h n d=some p→∃a,Reads s.heap u p a):
 ∀(b:List D) (c:List V) (f:List Value) (g:List PyData),DVs X.K m H b c→Vals c f→Bp (b.map (Be h n))=some g→∃a,ReadsAll s.heap f g a
 |[],c,f,g,r,q,e=>by simp only [DVs] at r;subst r;cases q;simp [Bp] at e;subst e;exact ⟨[],.nil⟩
 |d::b,c,f,g,r,q,e=>by
  simp only [DVs] at r;obtain ⟨v,w,rfl,o,i⟩:=r;cases q with
  |cons t x=>
   rw [Bk] at e;cases j:Be h n d with
   |none=>rw [j] at e;simp [Bp] at e
   |some p=>rw [j] at e;simp only [Bp,qb6] at e;obtain ⟨k,y,rfl⟩:=e;obtain ⟨a,z⟩:=l d v _ p o t j;obtain ⟨bs,A⟩:=OZ l b w _ k i x y;exact ⟨a++bs,.cons z A⟩
def U8 (f:HOk X.prog X.w H s.heap∧X.K.In s.heap) (J:HR X.K m h H):∀(n:Nat) (d:D) (v:V) (u:Value) (p:PyData),DV X.K m H d v→RelV v u→Be h n d=some p→∃g,Reads s.heap u p g:=by
 intro n
 induction n with
 |zero=>
  intro d v u p r q e;cases d<;>simp only [Be,DV,Option.some.injEq] at e r<;>try (cases e;done)
  ·subst e r;cases q;exact ⟨[],.none⟩
  ·subst e r;cases q;exact ⟨[],.bool _⟩
  ·subst e r;obtain ⟨t,rfl⟩:=q;exact ⟨[],.int _ _⟩
  ·subst e r;obtain ⟨t,rfl⟩:=q;exact ⟨[],.str _ _⟩
 |succ n I=>
  intro d v u p r q e;cases d with
  |non=>simp only [Be,DV,Option.some.injEq] at e r;subst e r;cases q;exact ⟨[],.none⟩
  |bl b=>simp only [Be,DV,Option.some.injEq] at e r;subst e r;cases q;exact ⟨[],.bool _⟩
  |int i=>simp only [Be,DV,Option.some.injEq] at e r;subst e r;obtain ⟨t,rfl⟩:=q;exact ⟨[],.int _ _⟩
  |str x=>simp only [Be,DV,Option.some.injEq] at e r;subst e r;obtain ⟨t,rfl⟩:=q;exact ⟨[],.str _ _⟩
  |tup j=>simp only [Be,DV,qb6] at e r;obtain ⟨a,w,rfl,y,z⟩:=r;obtain ⟨A,B,rfl⟩:=e;cases q;obtain ⟨_,c,C,⟨o,F,L,k,M⟩,_⟩:=tok f y;obtain ⟨g,G⟩:=OZ I j w c A z C B;exact ⟨g,.tuple F L M (by simpa using G)⟩
  |loc l=>
   simp only [DV] at r;obtain ⟨a,rfl,y⟩:=r;cases q;simp only [Be] at e;split at e
   ·rename_i j N;simp only [qb6] at e;obtain ⟨A,B,rfl⟩:=e;obtain ⟨w,O,z⟩:=J.cells l _ a N y;obtain ⟨_,c,k,C,F⟩:=f.1 a _ O;obtain ⟨g,G⟩:=OZ I j w c A z C B;exact ⟨_,.list F rfl rfl (by simpa using G)⟩
   ·cases e
  |scr P=>simp [Be] at e
  |adr a=>simp [Be] at e
  |ty a=>simp [Be] at e
  |exc n fs=>simp [Be] at e
  |edic=>simp [Be] at e
  |glo n=>simp [Be] at e
  |clo a w j=>simp [Be] at e
def Gw (f:PyData→PyData→Bool):D→D→HD→Out D:=fun x y h=>match Be h 8 x,Be h 8 y with
 |some p,some q=>if SeqAt.shaped p=true∧SeqAt.shaped q=true then .ok (.bl (f p q)) h else .stuck
 |_,_=>.stuck
abbrev Hr:=Gw PyData.eqv
abbrev Fg:=Gw fun p q=>!PyData.eqv p q
def U9 {o:CmpOp} {f:PyData→PyData→Bool} 
 (rule:∀{s:Shared} {a b:Value} {p q:PyData} {j bs:List Addr} {Q:Value→Shared→Prop},Reads s.heap a p j→Reads s.heap b q bs→SeqAt.shaped p=true→SeqAt.shaped q=true→Q (.bool (f p q)) s→wpAny (model X.prog X.w) X.A (compareOp o a b) Q X.xe s):
 BC X (compareOp o) (Gw f):=by
 refine ⟨fun v u H Q=>∃m h x y,HR X.K m h H∧DV X.K m H x v∧DV X.K m H y u∧wa X.K (rD X.K) m H E0 Q (Gw f x y h),?_,fun m H h E x y v u Q g r i q=>⟨m,h,x,y,g,r,i,?_⟩⟩
 ·intro pins s σ H x y v u Q I r i k;obtain ⟨m,h,l,n,g,t,w,q⟩:=k;unfold Gw at q;split at q
  ·rename_i p z e c;split at q
   ·rename_i d;obtain ⟨j,A⟩:=U8 ⟨I.hok,I.kIn⟩ g 8 l x v p t r e;obtain ⟨bs,B⟩:=U8 ⟨I.hok,I.kIn⟩ g 8 n y u z w i c;exact rule A B d.1 d.2 ⟨.bl _,H,I,rfl,Bb g q (by simp [DV])⟩
   ·exact q.elim
  ·exact q.elim
 ·unfold Gw at q ⊢;split
  ·split
   ·rename_i e c d;rw [e,c] at q;simp only [d] at q;exact q
   ·rename_i e c d;rw [e,c] at q;simp only [d] at q;exact q.elim
  ·rename_i C;split at q
   ·rename_i e c;exact (C _ _ e c).elim
   ·exact q.elim
def gi (a:X.A.units+64<cLine):BC X (compareOp .Eq) Hr:=U9 fun r b c d h=>eq_dataH r b c d a h
def gj (a:X.A.units+64<cLine):BC X (compareOp .NotEq) Fg:=U9 fun r b c d h=>ne_dataH r b c d a h
def C2:D→Option V
 |.non=>some .non
 |.bl b=>some (.bl b)
 |.int i=>some (.int i)
 |.str x=>some (.str x)
 |_=>none
def Me (r:DV X.K m H d v) (e:C2 d=some w):v=w∧Ed v=true:=by cases d<;>simp only [C2,Option.some.injEq,DV] at e r<;>first |(subst e r;exact ⟨rfl,rfl⟩) |cases e
def Mf:∀{c:List D} {a b:List V},DVs X.K m H c a→Bp (c.map C2)=some b→a=b∧a.all Ed=true
 |[],a,b,r,e=>by simp only [DVs] at r;simp [Bp] at e;subst r e;exact ⟨rfl,rfl⟩
 |d::c,a,b,r,e=>by
  simp only [DVs] at r;obtain ⟨v,w,rfl,i,f⟩:=r;rw [Bk] at e;cases g:C2 d with
  |none=>rw [g] at e;simp [Bp] at e
  |some p=>rw [g] at e;simp only [Bp,qb6] at e;obtain ⟨j,k,rfl⟩:=e;obtain ⟨l,n⟩:=Me i g;obtain ⟨o,q⟩:=Mf f k;subst l o;exact ⟨rfl,by simp [n,q]⟩
noncomputable def BB:D→HD→Option (List D)
 |.tup d,_=>some d
 |.loc l,h=>match h[l]? with
  |some (.lst d)=>some d
  |_=>none
 |.scr n,_=>some (n.map .int)
 |_,_=>none
def Va {a:List Int}:DVs X.K m H (a.map .int) (a.map V.int):=by
 induction a with
 |nil=>exact .nil
 |cons n a i=>exact .cons (by simp [DV]) i
def Kt (i:HR X.K m h H) (r:DV X.K m H d v) (e:BB d h=some g):∃p b,v=.ref p∧(SqL X.K H p b∨SqT X.K H p b)∧DVs X.K m H g b:=by
 cases d with
 |tup x=>simp only [DV,BB,Option.some.injEq] at r e;subst e;obtain ⟨a,b,rfl,c,f⟩:=r;exact ⟨a,b,rfl,.inr (tq c),f⟩
 |loc l=>
  simp only [DV] at r;obtain ⟨a,rfl,c⟩:=r;simp only [BB] at e;split at e
  ·rename_i x j;cases e;obtain ⟨b,k,f⟩:=i.cells l _ a j c;exact ⟨a,b,rfl,.inl (SqL.of k),f⟩
  ·cases e
 |scr n=>simp only [DV,BB,Option.some.injEq] at r e;subst e;obtain ⟨a,rfl,c⟩:=r;exact ⟨a,_,rfl,.inl c.sq,Va⟩
 |_=>simp [BB] at e
noncomputable def Fh (n:Bool):D→D→HD→Out D:=fun x y h=>match BB y h with
 |none=>.stuck
 |some d=>match C2 x,Bp (d.map C2) with
  |some v,some a=>.ok (.bl (if n then !IW v a else IW v a)) h
  |_,_=>.stuck
def gk {n:Bool}:∀m H h E x y v u Q,HR X.K m h H→DV X.K m H x v→DV X.K m H y u→wa X.K (rD X.K) m H E Q (Fh n x y h)→UQ X.K n v u H Q:=fun m H h E x y v u Q a r b q=>by
 unfold Fh at q;split at q
 ·exact q.elim
 ·rename_i t e;split at q
  ·rename_i w z c d;obtain ⟨p,f,rfl,g,i⟩:=Kt a b e;obtain ⟨j,k⟩:=Me r c;obtain ⟨l,o⟩:=Mf i d;subst j l;exact ⟨p,f,rfl,g,k,o,Bb a q (by simp [DV])⟩
  ·exact q.elim
def gm:BC X (compareOp .In) (Fh false):=⟨_,eI,gk⟩
def Ah:D→D→HD→Out D:=fun x y h=>match BB x h,y with
 |some a,.int i=>match Cu a i with
  |some d=>.ok d h
  |none=>.stuck
 |_,_=>.stuck
def gn {i:Int} (r:DVs X.K m H b a) (e:Cu b i=some d):∃v,Cu a i=some v∧DV X.K m H d v:=by
 unfold Cu at e ⊢;rw [r.len] at e;cases k:Dy a.length i with
 |none=>rw [k] at e;cases e
 |some j=>rw [k] at e;exact r.get e
def gp (o:Ev X E a f) (t:Ev X E b g) (z:OQ b):Ev X E (.Subscript a b pos) (Aa Ah f g):=
 BR (UO (ix_list.or ix_tup) o t z) fun σ H Q A=>Kq A fun m G I x y v u j B r q=>by
  unfold Ah at q;split at q
  ·rename_i J i e;split at q
   ·rename_i d C;simp only [DV] at r;subst r;obtain ⟨p,k,rfl,c,F⟩:=Kt j B e;obtain ⟨w,l,n⟩:=gn F C;rcases c with c |c
    ·exact .inl ⟨p,k,i,w,rfl,rfl,c,l,Bb j q n⟩
    ·exact .inr ⟨p,k,i,w,rfl,rfl,c,l,Bb j q n⟩
   ·exact q.elim
  ·exact q.elim
def Au:D→HD→Out D:=fun x h=>match BB x h with
 |some d=>.ok (.int d.length) h
 |none=>.stuck
def Fi {F:D→HD→Out D} {C:Prop} (r:DVs X.K m H a b) (q:wa X.K (rD X.K) m H E Q (Ai F a h)) (k:∀d v,b=[v]→DV X.K m H d v→wa X.K (rD X.K) m H E Q (F d h)→C):C:=by
 unfold Ai at q;split at q
 ·simp only [DVs] at r;obtain ⟨v,w,rfl,c,rfl⟩:=r;exact k _ v rfl c q
 ·exact q.elim
def Mg {F:D→D→HD→Out D} {C:Prop} (r:DVs X.K m H c e) (q:wa X.K (rD X.K) m H E Q (Bo F c h)) (k:∀d f v a,e=[v,a]→DV X.K m H d v→DV X.K m H f a→wa X.K (rD X.K) m H E Q (F d f h)→C):C:=by
 unfold Bo at q;split at q
 ·simp only [DVs] at r;obtain ⟨v,w,rfl,g,a,i,rfl,b,rfl⟩:=r;exact k _ _ v a rfl g b q
 ·exact q.elim
def gq:C1 X (.builtin "len") (Ai Au):=by
 refine ⟨_,eJ,fun m H h E i j Q a r q=>Fi r q fun d v b c q=>?_⟩;unfold Au at q;split at q
 ·rename_i x e;obtain ⟨p,w,rfl,f,g⟩:=Kt a c e;exact ⟨p,w,b,f,by rw [←g.len];exact Bb a q (by simp [DV])⟩
 ·exact q.elim
def CDv (i j:Int):Prop:=0<j∧j<18446744073709551616
instance (i j:Int):Decidable (CDv i j):=by unfold CDv;infer_instance
def CDv.no {i j:Int} (h:CDv i j):Builtin.divisionGoesByPylong i j=false:=by
 refine PyProof.noPylong_of_log2 ?_;have a:j.natAbs≠0:=by have:=h.1;omega
 have b:j.natAbs<2^64:=by have:=h.2;have:=h.1;omega
 exact Nat.lt_trans ((Nat.log2_lt a).mpr b) (by decide)
def gr:De X (.builtin "divmod") (fun x H Q=>∃i j,x=[.int i,.int j]∧CDv i j∧∀p,H p=none→Q (.ref p) (Av H p (.tup [.int (i / j),.int (i % j)]))):=by intro pins s σ H x d Q I r h;obtain ⟨i,j,rfl,a,q⟩:=h;obtain ⟨u,w,rfl,⟨t,rfl⟩,⟨f,rfl⟩⟩:=Km r;have g:=a.1;refine divmod_int (by omega) ?_ (.inl a.no);rw [Int.fdiv_eq_ediv_of_nonneg i (by omega),Int.fmod_eq_emod_of_nonneg i (by omega)];have c:H s.heap.objs.size=none:=I.hok.fresh (AK _);refine ⟨.ref s.heap.objs.size,_,?_,rfl,q _ c⟩;refine I.laid (fun b o e=>AW _ e) (AK _) ⟨by simp only [Dc,Ka];rw [sizeLine_eq];decide,[.int (i / j) s.toks,.int (i % j) (s.toks+1)],.cons ⟨_,rfl⟩ (.cons ⟨_,rfl⟩ .nil),?_,wH.new⟩;exact ⟨_,Bx s.heap rfl,rfl,0,rfl⟩
noncomputable def Ku:D→D→HD→Out D
 |.int i,.int j,h=>if CDv i j then .ok (.tup [.int (i / j),.int (i % j)]) h else .stuck
 |_,_,_=>.stuck
def gu:C1 X (.builtin "divmod") (Bo Ku):=by
 refine ⟨_,gr,fun m H h E g k Q c r q=>Mg r q fun d l v n e b a q=>?_⟩;unfold Ku at q;split at q
 ·split at q
  ·rename_i i j f;simp only [DV] at b a;subst b a;exact ⟨i,j,e,f,Ho c (.cons (by simp [DV]) (.cons (by simp [DV]) .nil)) q⟩
  ·exact q.elim
 ·exact q.elim
def gv:OpR X (binaryOp .FloorDiv) (rI CDv fun i j=>.int (i / j)):=LV fun i j _ _ _ _ _ a q=>by have b:=a.1;exact floordiv_int (by omega) (by rw [Int.fdiv_eq_ediv_of_nonneg i (by omega)];exact q) (.inl a.no)
abbrev Gx:=intD (fun i j=>.int (i / j)) CDv
def gw:BC X (binaryOp .FloorDiv) Gx:=OX gv (fun _ _ h=>h) fun _ _ _ _=>by simp [DV]
def Kv:D→D→HD→Out D
 |.int i,.int j,h=>.ok (.int (if j>i then j else i)) h
 |_,_,_=>.stuck
def FR:D→D→HD→Out D
 |.int i,.int j,h=>.ok (.int (if j<i then j else i)) h
 |_,_,_=>.stuck
def gx (c:X.calm=true):C1 X (.builtin "max") (Bo Kv):=by
 refine ⟨_,cO c,fun m H h E g i Q e r q=>Mg r q fun d j v k f b a q=>?_⟩;unfold Kv at q;split at q
 ·simp only [DV] at b a;subst b a;exact ⟨_,_,f,Bb e q (by simp [DV])⟩
 ·exact q.elim
def gy (c:X.calm=true):C1 X (.builtin "min") (Bo FR):=by
 refine ⟨_,cP c,fun m H h E g i Q e r q=>Mg r q fun d j v k f b a q=>?_⟩;unfold FR at q;split at q
 ·simp only [DV] at b a;subst b a;exact ⟨_,_,f,Bb e q (by simp [DV])⟩
 ·exact q.elim
def FS:D→HD→Out D
 |.int i,h=>.ok (.int i) h
 |.bl b,h=>.ok (.int (if b then 1 else 0)) h
 |_,_=>.stuck
def gz:C1 X (.type "int") (Ai FS):=by
 refine ⟨_,cQ,fun m H h E c f Q b r q=>Fi r q fun d v e a q=>?_⟩;unfold FS at q;split at q
 ·simp only [DV] at a;subst a;exact .inl ⟨_,e,Bb b q (by simp [DV])⟩
 ·simp only [DV] at a;subst a;exact .inr ⟨_,e,Bb b q (by simp [DV])⟩
 ·exact q.elim
def Bi:D→HD→Out D:=fun x h=>match x with
 |.tup d=>.ok (.tup d) h
 |.loc l=>match h[l]? with
  |some (.lst d)=>.ok (.tup d) h
  |_=>.stuck
 |_=>.stuck
def gA:C1 X (.type "tuple") (Ai Bi):=by
 refine ⟨_,eM,fun m H h E l n Q e r q=>Fi r q fun d v g b q=>?_⟩;unfold Bi at q;split at q
 ·simp only [DV] at b;obtain ⟨a,w,rfl,c,f⟩:=b;exact ⟨a,w,g,.inr ⟨tq c,Bb e q (by simp only [DV];exact ⟨a,w,rfl,c,f⟩)⟩⟩
 ·split at q
  ·rename_i i j;simp only [DV] at b;obtain ⟨a,rfl,c⟩:=b;obtain ⟨w,k,f⟩:=e.cells _ _ a j c;exact ⟨a,w,g,.inl ⟨SqL.of k,Ho e f q⟩⟩
  ·exact q.elim
 ·exact q.elim
end
def wg.bind {e g:Type} {K:Frag} {R:List Addr→Hp→e→g→Prop} {Q:g→Hp→Prop} {Dn:Eb} {o:Out e} {k:e→HD→Out (Fl×Ag)} 
 (h:wg K m H E Dn (o.bind k)) (f:∀a c v d b,o=.ok a c→m <+:d→Kp H b→HR K d c b→R d b a v→wg K d b E Dn (k a c)→Q v b):wa K R m H E Q o:=by
 cases o with
 |ok a c=>exact fun v d b p i j r=>f a c v d b rfl p i j r (h.ahead p i)
 |err C fs c=>exact h
 |stuck=>exact h
def wg.here {K:Frag} {Dn:Eb} {a:Fl×Ag} (b:HR K m h H) (p:wg K m H E Dn (.ok a h)):UX K m H Dn a:=p m H (AI _) (.refl _) b
section
variable {X:Cx} {E:XK} {st:Stmt} {sts b1 b2:List Stmt} {g g1 g2:MS} {e:Expr} {f:ME} {pos:Pos} {t:MT}
def AG:MS:=fun a h=>.ok (.nx,a) h
def AM (g1 g2:MS):MS:=fun c h=>(g1 c h).bind fun x b=>match x with
 |(.nx,a)=>g2 a b
 |y=>.ok y b
def gB:Df X E [] AG:=OW bt fun Dn a H z=>by obtain ⟨m,d,h,b,c,p⟩:=z;exact ((p.here b) a c)
def O0 (h:Ex X E st g):Df X E [st] g:=bw h
def Vb (b:Ex X E st g1) (r:Df X E sts g2):Df X E (st::sts) (AM g1 g2):=
 OW (bu b r) fun Dn y H z=>by
  obtain ⟨m,q,h,s,u,p⟩:=z;refine ⟨m,q,h,s,u,?_⟩;unfold AM at p;cases o:g1 q h with
  |stuck=>rw [o] at p;exact p
  |err C fs b=>rw [o] at p;exact p
  |ok x b=>
   rw [o] at p;obtain ⟨v,j⟩:=x;intro c l i k a;cases v with
   |nx=>exact fun w n=>⟨c,j,b,a,n,wg.ahead i k p⟩
   |bk=>exact p c l i k a
   |ct=>exact p c l i k a
   |rt d=>exact p c l i k a
def AU (f:ME):MS:=fun a h=>(f a h).bind fun _ b=>.ok (.nx,a) b
def gC (c:Ev X E e f) (d:swapsWith e none pos.line X.env=pure false:=by rfl):Ex X E (.Expr e pos) (AU f):=
 DO (bA c d) fun Dn i H z=>by obtain ⟨m,j,h,k,b,p⟩:=z;exact (⟨m,j,h,k,b,wg.bind p fun x o v r s _ l n a u q=>(q.here a) i (b.keep l n)⟩)
def Ak (f:ME):MS:=fun a h=>(f a h).bind fun d b=>.ok (.rt d,a) b
def gD (b:Ev X E e f):Ex X E (.Return (some e) pos) (Ak f):=
 DO (bE b) fun Dn j H z=>by obtain ⟨m,c,h,d,i,p⟩:=z;exact (⟨m,c,h,d,i,wg.bind p fun x k v l n _ o s a r q=>(q.here a) v r⟩)
def AC (t:MT) (g1 g2:MS):MS:=fun a h=>(t a h).bind fun b c=>if b=true then g1 a c else g2 a c
def gE (n:Ee X E c t) (o:Df X E b1 g1) (r:Df X E b2 g2):Ex X E (.If c b1 b2 pos) (AC t g1 g2):=
 DO (bG n o r) fun Dn w H z=>by obtain ⟨m,b,h,s,d,p⟩:=z;exact (⟨m,b,h,s,d,wg.bind p fun x i v j y _ k l a u q=>by
  cases u;cases x with
  |true=>exact ⟨j,b,i,a,d.keep k l,q⟩
  |false=>exact ⟨j,b,i,a,d.keep k l,q⟩⟩)
def Gy:MS:=fun _ _=>.stuck
def O1:Ex X E st Gy:=DO bH fun Dn a H z=>by obtain ⟨m,b,h,c,d,p⟩:=z;exact (p)
def gF:Df X E sts Gy:=OW bI fun Dn a H z=>by obtain ⟨m,b,h,c,d,p⟩:=z;exact (p)
def Am (i:Nat) (f:ME):MS:=fun a h=>(f a h).bind fun d b=>.ok (.nx,a.set i (some d)) b
def Vc {i:Nat} {x:Str} (d:X.N.Nodup) (j:X.N[i]?=some x) (k:Hf X.env.scope x) (l:Ev X E e f) (n:swapsWith e (some (.Name x a)) pos.line X.env=pure false:=by rfl) (hf:X.fn x=true∨X.env.scope.names.lookup x=some .local:=by first |exact .inl rfl |exact .inr rfl |assumption):
 Ex X E (.Assign [.Name x a] e pos) (Am i f):=
 DO (bL d j k l n hf) fun Dn y H z=>by obtain ⟨m,o,h,q,c,p⟩:=z;exact (⟨m,o,h,q,c,wg.bind p fun x A v B C _ r s b u w=>(w.here b) _ ((c.keep r s).set u)⟩)
noncomputable def Eh (i j:Nat) (b:MA):MS:=fun a h=>(b a h).bind fun d c=>match d with
 |[x,y]=>.ok (.nx,(a.set i (some x)).set j (some y)) c
 |_=>.stuck
def gG {i j:Nat} {x y:Str} {a b:Expr} {d py pt:Pos} {k l:Nat} (B:X.calm=true) (C:X.N.Nodup) (F:X.N[i]?=some x) (G:X.N[j]?=some y) (n:i≠j)
 (I:X.env.scope.names.lookup x=some .local) (J:X.env.scope.names.lookup y=some .local) (L:CU X E [a,b] s)
 (M:swappedStores [.Tuple [.Name x d,.Name y py] k pt] (.Tuple [a,b] l c) X.env=pure (some [x,y]))
 (N:swapsWithSole [.Tuple [.Name x d,.Name y py] k pt] (.Tuple [a,b] l c) pos.line X.env=pure false:=by rfl):
 Ex X E (.Assign [.Tuple [.Name x d,.Name y py] k pt] (.Tuple [a,b] l c) pos) (Eh i j s):=
 DO (bN B C F G n I J L M N) fun Dn U H z=>by obtain ⟨m,O,h,P,u,p⟩:=z;exact (⟨m,O,h,P,u,wg.bind p fun x W v Y Z _ Q R o A q=>by
  split at q
  ·simp only [EO,DVs] at A;obtain ⟨v,w,rfl,S,T,w',rfl,r,rfl⟩:=A;exact ⟨v,T,rfl,(q.here o) _ (((u.keep Q R).set S).set r)⟩
  ·exact q.elim⟩)
abbrev MG:=D→Ag→Option Ag
def FT (X:Cx) (j:Expr) (s:MG):Prop:=
 ∃c:TG,PG X j c∧∀m H d v h i a Q,DV X.K m H d v→ER X.K m H h i→s d h=some a→(∀b,ER X.K m H a b→Q b H)→c v i H Q
def AB (i:Nat):MG:=fun d ρ=>some (ρ.set i (some d))
noncomputable def Bs (i j:Nat):MG:=fun d a=>match d with
 |.tup [x,y]=>some ((a.set i (some x)).set j (some y))
 |_=>none
def gH {i:Nat} (h:PG X (.Name x pos) (CH i)):FT X (.Name x pos) (AB i):=⟨_,h,fun m H d v c j a Q r b e q=>by simp only [AB,Option.some.injEq] at e;subst e;exact q _ (b.set r)⟩
def gI {i j:Nat} {x y:Str} {c py:Pos} {k:Nat} (h:PG X (.Tuple [.Name x c,.Name y py] k pos) (Hi X.K 2 (DG (CH i) (DG (CH j) Gk)))):FT X (.Tuple [.Name x c,.Name y py] k pos) (Bs i j):=⟨_,h,fun m H d v A B l Q r n e q=>by
 unfold Bs at e;split at e
 ·rename_i a b;cases e;simp only [DV,DVs] at r;obtain ⟨p,C,rfl,o,s,F,rfl,u,w,G,rfl,z,rfl⟩:=r;exact ⟨p,_,rfl,tq o,rfl,s,_,rfl,w,_,rfl,rfl,q _ ((n.set u).set z)⟩
 ·cases e⟩
def C3 (s:MG) (f:ME):MS:=fun b h=>(f b h).bind fun d c=>match s d b with
 |some a=>.ok (.nx,a) c
 |none=>.stuck
def gJ {a:Expr} {s:MG} (r:Ev X E e f) (b:FT X a s) (u:swapsWithSole [a] e pos.line X.env=pure false:=by rfl) (w:swappedStores [a] e X.env=pure none:=by rfl)
 (l:(assignEach [a] X.env).map (·.2)=[assign a X.env]:=by rfl):Ex X E (.Assign [a] e pos) (C3 s f):=by
 obtain ⟨L,b,i⟩:=b;exact DO (OD r b u w l) fun Dn y H z=>by obtain ⟨m,n,h,A,o,p⟩:=z;exact (⟨m,n,h,A,o,wg.bind p fun x l v B C _ F G c I q=>by
  split at q
  ·rename_i d J;exact i B C x v n y d _ I (o.keep F G) J fun j k=>(q.here c) j k
  ·exact q.elim⟩)
abbrev Bj:=List (Nat×List D)
def A7 (src:Bj) (i:List D) (h:HD):Prop:=∀p∈src,h[p.1]?=some (.lst p.2)
def Cr:A7 [] i h:=fun p z=>nomatch z
def Di {l:Nat} (e:h[l]?=some (.lst d)):A7 [(l,d)] i h:=fun p z=>by rw [qaG] at z;subst z;exact e
def Hs (K:Frag):List Addr→Hp→(List D×Bj)→It→Prop:=fun b c x J=>
 ∀i m a H,b <+:m→Kp c H→HR K m a H→A7 x.2 x.1 a→
  (i<x.1.length→J.go i H∧∀y h,J.yld i H y h→Kp H h∧HR K m a h∧∃d,x.1[i]?=some d∧DV K m h d y)∧(i=x.1.length→J.stop i H)
abbrev MI:=Ag→HD→Out (List D×Bj)
abbrev DP (X:Cx) (E:XK) (a iter:Expr) (i:MI):Prop:=PI X a iter (tM X.K (Hs X.K) E i)
def Jd {w c:TI} (h:PI X b iter w) (i:∀a H R,c a H R→w a H R):PI X b iter c:=fun p s a H R I q=>h p s a H R I (i a H R q)
def gK {w:TE} (A:PE X l w):PI X y l (fun n H R=>w n H fun x d=>∃a,x=.ref a∧(((∃j,SqL X.K d a j)∧R (Kh X.K a) d)∨((∃j,SqT X.K d a j)∧R (Ki X.K a) d))):=by
 intro k s n H R I h;refine Ap (A k s n H _ I h) fun v c z=>?_;obtain ⟨x,d,i,B,C⟩:=z;obtain ⟨a,e,q⟩:=C;subst e;cases B;rcases q with ⟨⟨j,r⟩,q⟩ |⟨⟨j,r⟩,q⟩
 ·obtain ⟨m,F,p,G⟩:=i.list r;refine wpAny_pyIter_list p.isList ?_;refine ⟨c.heap.objs.size,[c.heap.objs.size],_,_,d,rfl,i.kept (t':=c.toks) fun b o e=>AW _ e,bU a _,⟨_,Bx _ rfl,rfl,rfl⟩,fun b u=>?_,q⟩;have e:b=c.heap.objs.size:=by simpa using u
  subst e;exact i.fpOk (AK _) (i.hok.fresh (AK _))
 ·obtain ⟨m,F,p,G⟩:=i.tuple r;refine wpAny_pyIter_tuple (show c.heap.IsTuple a m.toArray from p) ?_;refine ⟨c.heap.objs.size,[c.heap.objs.size],_,_,d,rfl,i.kept (t':=c.toks) fun b o e=>AW _ e,bV a _,⟨_,Bx _ rfl,rfl,rfl⟩,fun b u=>?_,q⟩;have e:b=c.heap.objs.size:=by simpa using u
  subst e;exact i.fpOk (AK _) (i.hok.fresh (AK _))
def Mh:D→List D→Bj
 |.loc l,d=>[(l,d)]
 |_,_=>[]
def ES (d:D) (h:HD):Out (List D×Bj):=match BB d h with
 |some a=>.ok (a,Mh d a) h
 |none=>.stuck
def A3 (f:ME):MI:=fun ρ h=>(f ρ h).bind ES
def Kp.lget {K:Frag} (k:Kp H b) (h:FzL K H a x):SqL K b a x:=(k.fzL h).sq
def Vd {K:Frag} {i:Nat} {b:List D} (r:HR K m h H) (k:SqL K H a c) (n:DVs K m H b c) (u:∀o,SqL K H a o→o=c∨True):
 (i<b.length→(Kh K a).go i H∧∀y j,(Kh K a).yld i H y j→Kp H j∧HR K m h j∧∃d,b[i]?=some d∧DV K m j d y)∧(i=b.length→(Kh K a).stop i H):=by
 refine ⟨fun l=>?_,fun l=>⟨c,k,by rw [←n.len];exact IR l.symm⟩⟩;have p:b[i]?=some b[i]:=Bl l;obtain ⟨v,q,s⟩:=n.get p;refine ⟨⟨c,v,k,q⟩,fun y j z=>?_⟩;obtain ⟨w,x⟩:=z;subst w;have:=x c k;rw [q] at this;cases this;exact ⟨.refl _,r,_,p,s⟩
def gL {K:Frag} {i:Nat} {b:List D} (q:HR K m h H) (k:SqT K H a c) (n:DVs K m H b c):
 (i<b.length→(Ki K a).go i H∧∀y j,(Ki K a).yld i H y j→Kp H j∧HR K m h j∧∃d,b[i]?=some d∧DV K m j d y)∧(i=b.length→(Ki K a).stop i H):=by
 refine ⟨fun l=>?_,fun l=>⟨c,k,by rw [←n.len];exact IR l.symm⟩⟩;have o:b[i]?=some b[i]:=Bl l;obtain ⟨v,p,r⟩:=n.get o;refine ⟨⟨c,v,k,p⟩,fun y j z=>?_⟩;obtain ⟨s,u⟩:=z;subst s;have:=u c k;rw [p] at this;cases this;exact ⟨.refl _,q,_,o,r⟩
def gM (d:Ev X E a f):DP X E B a (A3 f):=
 Jd (gK d) fun P H R ⟨m,C,h,F,G,p⟩=>⟨m,C,h,F,G,wa.bind p fun x Q v o s _ S T j r q=>by
  unfold ES at q;split at q
  ·rename_i U b;cases x with
   |tup I=>simp only [BB,Option.some.injEq] at b;subst b;simp only [rD,DV] at r;obtain ⟨a,u,rfl,d,w⟩:=r;refine ⟨a,rfl,.inr ⟨⟨u,tq d⟩,q _ o s (AI _) (.refl _) j fun i y z A n k c _=>?_⟩⟩;exact gL c (tq (d.keep k)) (w.keep n k)
   |loc l=>
    simp only [rD,DV] at r;obtain ⟨a,rfl,d⟩:=r;simp only [BB] at b;split at b
    ·rename_i I J;cases b;obtain ⟨u,L,w⟩:=j.cells l _ a J d;refine ⟨a,rfl,.inl ⟨⟨u,SqL.of L⟩,q _ o s (AI _) (.refl _) j fun i y z A n k c M=>?_⟩⟩;obtain ⟨W,N,O⟩:=c.cells l _ a (M _ AX) (Hj n d);exact Vd c (SqL.of N) O fun _ _=>.inr trivial
    ·cases b
   |scr Y=>simp only [BB,Option.some.injEq] at b;subst b;simp only [rD,DV] at r;obtain ⟨a,rfl,d⟩:=r;refine ⟨a,rfl,.inl ⟨⟨_,d.sq⟩,q _ o s (AI _) (.refl _) j fun i y z A n k c _=>?_⟩⟩;exact Vd c (k.lget d) Va fun _ _=>.inr trivial
   |_=>simp [BB] at b
  ·exact q.elim⟩
def Gz (lo:Int) (n:Nat):List D:=(List.range n).map fun k=>.int (lo+(k:Nat))
def Ve {K:Frag} (lo:Int) (n:Nat):Hs K m H (Gz lo n,[]) (Kj lo n):=fun i j k l p o a _=>by
 refine ⟨fun b=>?_,fun b=>?_⟩
 ·have h:i<n:=by simpa [Gz] using b
  refine ⟨h,fun y q z=>?_⟩;obtain ⟨c,d⟩:=z;subst c d;refine ⟨.refl _,a,.int (lo+i),?_,by simp [DV]⟩;simp [Gz,D8,h]
 ·show n≤i
  have h:i=n:=by simpa [Gz] using b
  omega
@[irreducible] def Fj:List D→HD→Out (List D×Bj):=fun d h=>match d with
  |[.int j]=>@ite _ (-(2^62)≤j∧j<2^62) (Classical.propDecidable _) (.ok (Gz 0 j.toNat,[]) h) .stuck
  |_=>.stuck
@[irreducible] def Je:List D→HD→Out (List D×Bj):=fun d h=>match d with
  |[.int i,.int j]=>@ite _ ((-(2^62)≤i∧i<2^62)∧-(2^62)≤j∧j<2^62) (Classical.propDecidable _) (.ok (Gz i (j - i).toNat,[]) h) .stuck
  |_=>.stuck
def BZ (a:MA):MI:=fun ρ h=>(a ρ h).bind Fj
def Fm (a:MA):MI:=fun ρ h=>(a ρ h).bind Je
def gN (j:Gl X "range") (k:X.mg "range"=none) (l:CU X E [a] c) (n:starEach [a] X.env=[(false,eval a X.env)]:=by rfl):DP X E i (.Call (.Name "range" p) [a] [] pos) (BZ c):=
 Jd (bZ j k l n) fun B H R z=>by obtain ⟨m,o,h,s,u,p⟩:=z;exact (⟨m,o,h,s,u,wa.bind p fun x C v y A _ F G b r q=>by
  unfold Fj at q;split at q
  ·split at q
   ·rename_i d;simp only [EO,DVs,DV] at r;obtain ⟨v,w,rfl,rfl,rfl⟩:=r;exact ⟨_,rfl,d.1,d.2,q _ y A (AI _) (.refl _) b (Ve 0 _)⟩
   ·exact q.elim
  ·exact q.elim⟩)
def gO {k a b:Expr} (l:Gl X "range") (n:X.mg "range"=none) (o:CU X E [a,b] j) (s:starEach [a,b] X.env=[(false,eval a X.env),(false,eval b X.env)]:=by rfl) (d:starEach [b] X.env=[(false,eval b X.env)]:=by rfl):DP X E k (.Call (.Name "range" p) [a,b] [] pos) (Fm j):=
 Jd (b8 l n o s d) fun F H R z=>by obtain ⟨m,u,h,y,A,p⟩:=z;exact (⟨m,u,h,y,A,wa.bind p fun x G v B C _ I J i r q=>by
  unfold Je at q;split at q
  ·split at q
   ·rename_i c;simp only [EO,DVs,DV] at r;obtain ⟨v,w,rfl,rfl,L,M,rfl,rfl,rfl⟩:=r;exact ⟨_,_,rfl,⟨c.1.1,c.1.2,c.2.1,c.2.2⟩,q _ B C (AI _) (.refl _) i (Ve _ _)⟩
   ·exact q.elim
  ·exact q.elim⟩)
open Classical in
def Fo (s:Bj) (i:List D) (j:MG) (b:MS):List D→MS
 |[]=>fun k h=>if A7 s i h then .ok (.nx,k) h else .stuck
 |d::m=>fun k h=>if A7 s i h then match j d k with
   |none=>.stuck
   |some l=>(b l h).bind fun x c=>match x with
    |(.nx,a)=>Fo s i j b m a c
    |(.ct,a)=>Fo s i j b m a c
    |(.bk,a)=>.ok (.nx,a) c
    |(.rt d,a)=>.ok (.rt d,a) c
  else .stuck
def BK (i:MI) (s:MG) (b:MS):MS:=fun a h=>(i a h).bind fun x c=>Fo x.2 x.1 s b x.1 a c
inductive FoI (K:Frag) (E:XK) (Dn:Eb) (src:Bj) (items:List D) (sg:MG) (g:MS) (m1:List Addr) (H1:Hp) (i n:Nat) (σ2:L2.St) (H2:Hp):Prop where
 |mk (e:n=items.length - i) (l:i≤items.length) (m2:List Addr) (ρ2:Ag) (h2:HD) (p:m1 <+:m2) (k:Kp H1 H2) (hr:HR K m2 h2 H2) (er:ER K m2 H2 ρ2 σ2) (q:wg K m2 H2 E Dn (Fo src items sg g (items.drop i) ρ2 h2)):FoI K E Dn src items sg g m1 H1 i n σ2 H2
inductive FoJ (K:Frag) (E:XK) (Dn:Eb) (src:Bj) (items:List D) (sg:MG) (g:MS) (m1:List Addr) (H1:Hp) (i:Nat) (σ2:L2.St) (H2:Hp):Prop where
 |mk (m2:List Addr) (ρ2:Ag) (h2:HD) (p:m1 <+:m2) (k:Kp H1 H2) (hr:HR K m2 h2 H2) (er:ER K m2 H2 ρ2 σ2) (q:wg K m2 H2 E Dn (Fo src items sg g (items.drop i) ρ2 h2)):FoJ K E Dn src items sg g m1 H1 i σ2 H2
def gP {s:List Stmt} {it:MI} {P:MG} (hp:PassesOwn (model X.prog X.w) X.A X.env X.xe) (hc:X.calm=true) (W:DP X E U iter it) (Y:FT X U P) (hb:Df X E s g)
 (B:∀x,foldedSetIterable iter X.env x=pure x:=by intro _;rfl):Ex X E (.For U iter s [] pos) (BK it P g):=by
 obtain ⟨gg,Y,ig⟩:=Y;refine DO (cb hp hc W Y hb B) ?_;rintro Dn σ H ⟨m,ρ,h,hr,er,p⟩;refine ⟨m,ρ,h,hr,er,wg.bind p fun x h1 J Q Z _ p1 k1 hr1 r1 q1=>?_⟩;obtain ⟨a,F⟩:=x;refine ⟨FoI X.K E Dn F a P g Q Z,⟨a.length,rfl,EI _,Q,ρ,h1,AI _,.refl _,hr1,er.keep p1 k1,by simpa using q1⟩,?_⟩;rintro i n G H2 ⟨rfl,W,R,ρ2,S,p2,k2,u,I,q⟩
 by_cases b:i<a.length
 ·rw [G3 b] at q;unfold Fo at q;split at q
  ·rename_i B;obtain ⟨hgo,hy⟩:=(r1 i R S H2 p2 k2 u B).1 b;refine .inr ⟨hgo,FoJ X.K E Dn F a P g Q Z (i+1),fun j T L=>by obtain ⟨w,k,M,a1,a2,a3,a4,a5⟩:=L;exact (⟨a.length - (i+1),by omega,rfl,b,w,k,M,a1,a2,a3,a4,a5⟩),fun y H3 hyl=>?_⟩;obtain ⟨k3,hr3,d,ed,rd⟩:=hy y H3 hyl;have ed':d=a[i]:=by rw [Bl b] at ed;exact (Option.some.inj ed).symm
   subst ed';split at q
   ·exact q.elim
   ·rename_i A es;refine ig R H3 _ y ρ2 G A _ rd (I.keep (AI _) k3) es fun σ4 er4=>?_;refine ⟨R,A,S,hr3,er4,?_⟩;have l:=wg.ahead (AI _) k3 q;cases o:g A S with
    |stuck=>rw [o] at l;exact l
    |err C fs M=>rw [o] at l;exact l
    |ok z M=>
     rw [o] at l;obtain ⟨fl,k⟩:=z;intro w T N O r;have pk:Q <+:w:=p2.trans N;have kk:Kp Z T:=(k2.trans k3).trans O;cases fl with
     |nx=>exact fun j c=>⟨w,k,M,pk,kk,r,c,wg.ahead N O l⟩
     |ct=>exact fun j c=>⟨w,k,M,pk,kk,r,c,wg.ahead N O l⟩
     |bk=>exact fun j c=>l w T N O r j c
     |rt d=>exact fun v rv=>l w T N O r v rv
  ·exact q.elim
 ·have he:i=a.length:=Ls W (IP b);subst he;rw [List.drop_length] at q;unfold Fo at q;split at q
  ·rename_i B;exact .inl ⟨(r1 _ R S H2 p2 k2 u B).2 rfl,(q.here u) G I⟩
  ·exact q.elim
end
section
variable {M:Model} {A:Around} {E:Value→Shared→Prop} {s:Shared}
def O2 {env:Env}:∀(n:List (Str×NameKind)) (a:List (Str×Addr)),(∀y∈n,y.2=.free→∃c,env.cells.lookup y.1=some c)→
 ∃d:List (Str×Addr),(forIn n a (fun (x:Str×NameKind) (v:List (Str×Addr))=>match x with
  |(name,k)=>if (k==NameKind.free)=true then do let y ←cellOf env name;pure (ForInStep.yield ((name,y)::v)) else pure (ForInStep.yield v)):Sem (List (Str×Addr)))=pure d∧
  (∀x c,(x,c)∈d→(x,c)∈a∨(env.cells.lookup x=some c∧(x,NameKind.free)∈n))∧(∀y∈n,y.2=.free→∃c,(y.1,c)∈d)∧(∀p∈a,p∈d)
 |[],a,_=>⟨a,rfl,fun x c h=>.inl h,fun y b=>absurd b (by simp),fun p h=>h⟩
 |(name,k)::r,a,h=>by
  rw [Lu]
  by_cases hk:k=.free
  ·subst hk;obtain ⟨c,w⟩:=h (name,.free) AX rfl;obtain ⟨d,e,i,j,f⟩:=O2 (env:=env) r ((name,c)::a) (fun y b=>h y (A2 _ b));refine ⟨d,?_,fun x l m=>?_,fun y b g=>?_,fun p z=>f p (A2 _ z)⟩
   ·rw [←e];have:cellOf env name=pure c:=by unfold cellOf;rw [w]
    simp only [this,beq_self_eq_true,if_true,pure_bind]
   ·rcases i x l m with q |⟨o,t⟩
    ·rcases qa6.mp q with q |q
     ·cases q;exact .inr ⟨w,AX⟩
     ·exact .inl q
    ·exact .inr ⟨o,A2 _ t⟩
   ·rcases qa6.mp b with q |q
    ·subst q;exact ⟨c,f _ AX⟩
    ·exact j y q g
  ·obtain ⟨d,e,i,j,f⟩:=O2 (env:=env) r a (fun y b=>h y (A2 _ b));refine ⟨d,?_,fun x l m=>?_,fun y b g=>?_,f⟩
   ·rw [←e];have u:(k==NameKind.free)=false:=by simpa using hk
    simp only [u,Cz,if_false,pure_bind]
   ·rcases i x l m with q |⟨o,t⟩
    ·exact .inl q
    ·exact .inr ⟨o,A2 _ t⟩
   ·rcases qa6.mp b with q |q
    ·subst q;exact absurd g hk
    ·exact j y q g
def Vf {scope:Scope} {env:Env} (h:∀y∈scope.names,y.2=.free→∃c,env.cells.lookup y.1=some c):
 ∃a:List (Str×Addr),closureFor scope env=pure a∧(∀x c,(x,c)∈a→env.cells.lookup x=some c∧(x,NameKind.free)∈scope.names)∧(∀y∈scope.names,y.2=.free→∃c,(y.1,c)∈a):=by
 obtain ⟨a,e,b,d,g⟩:=O2 (env:=env) scope.names [] h;refine ⟨a,?_,fun x c f=>?_,d⟩
 ·unfold closureFor;simp only [bind_pure];exact e
 ·rcases b x c f with q |q
  ·exact nomatch q
  ·exact q
def Vg {a:Scope} {cl:List (Str×Addr)} {Q:Env→Shared→Prop} 
 (h:Q (newEnv a s.heap.objs.size globals (cellsFrom (s.heap.objs.size+1) a.names cl) q none .none (some b) builtinsNs) {s with heap:=pushCells (s.heap.push {cls:=.type "dict",data:=.dict #[]}) a.names}):
 wpAny M A (newFunctionEnv a globals cl [] q none .none (some b)) Q E s:=by
 simp only [newFunctionEnv,Option.isSome_some,if_true];refine Aj (wpAny_alloc ?_);refine Aj (wpAny_layCells _ (fun name k c=>by cases d:k==NameKind.cell<;>simp [d]) _ _ _ _ ?_);simp only [List.forIn_nil,pure_bind];refine AD ?_;rw [show ({s with heap:=s.heap.push {cls:=.type "dict",data:=.dict #[]}}:Shared).heap.objs.size=s.heap.objs.size+1 from CQ ..];exact h
end
section
variable {prog:Program} {w:World} {A:Around} {R:Result→Shared→Prop} {s:Shared}
def gQ {u t iter:Expr} (I:Nat→Shared→Prop)
 (turn:∀n s,I n s→wpAny (model prog w) A (pyNext G) (fun r d=>match r with
  |none=>R (.ok .next) d
  |some v=>wpAny (model prog w) A (letOwnedTupleGo t G v) (fun _ f=>wpAny (model prog w) A (assign t a v) (fun _ k=>
   wpAny (model prog w) A (forIn y true fun c r=>if r=true then do let ok ←isTrue c a (eval c a);pure (ForInStep.yield ok) else pure (ForInStep.yield r)) (fun ok g=>
    if ok=true then wpAny (model prog w) A (eval u a) (fun x l=>wpAny (model prog w) A (call (.builtin "list.append") [z,x]) (fun _ o=>∃m,m<n∧I m o) (notedBy (model prog w) A a fun e i=>R (.error e) i) l) (notedBy (model prog w) A a fun e i=>R (.error e) i) g
    else ∃m,m<n∧I m g) (notedBy (model prog w) A a fun e i=>R (.error e) i) k) (notedBy (model prog w) A a fun e i=>R (.error e) i) f) (notedBy (model prog w) A a fun e i=>R (.error e) i) d) (notedBy (model prog w) A a fun e i=>R (.error e) i) s)
 (n:Nat) (h:I n s):
 codeAny (model prog w) A (.compLoop (.ListComp u [⟨t,iter,y,0⟩] b pos) 0 G z a) R s:=by
 refine codeAny_loop rfl I (fun n s H=>?_) n h
 show wpAny _ A ((compTurn (.ListComp u [⟨t,iter,y,0⟩] b pos) 0 G z a).onRaise (fun x=>do noteFrame x a;theTreesLotGoes x)) _ _ s
 refine wpAny_noted ?_;rw [compTurn_list];refine Aj (wpAny_standAt (Aj (Bm (turn n s H) (fun r d p=>?_) fun _ _ j=>j)));cases r with
 |none=>exact AD p
 |some v=>
  refine Aj (Bm p (fun _ f B=>?_) fun _ _ j=>j);refine Aj (Bm B (fun _ k C=>Aj (Bm C (fun ok g q=>?_) fun _ _ j=>j)) fun _ _ j=>j);cases ok with
  |false=>exact AD ⟨rfl,q⟩
  |true=>exact Aj (Aj (Bm q (fun x l E=>Aj (Bm E (fun _ o F=>AD (AD ⟨rfl,F⟩)) fun _ _ j=>j)) fun _ _ j=>j))
end
def FU (X:Cx) (i:List Expr) (t:TT):Prop:=∀(p:PQ) (s:Shared) (a:L2.St) (H:Hp) (Q:Bool→Hp→Prop),Inv X p a H s→t a H Q→
 wpAny (model X.prog X.w) X.A (forIn i true fun c r=>if r=true then do let ok ←isTrue c X.env (eval c X.env);pure (ForInStep.yield ok) else pure (ForInStep.yield r)) (TP X p a Q) X.xe s
def gR:FU X [] (fun _ H Q=>Q true H):=fun _ _ _ H _ I h=>wpAny_tests_nil ⟨H,I,h⟩
def gS {t:TT} (h:PT X c t):FU X [c] t:=fun p s a H Q I q=>wpAny_tests_one (h p s a H Q I q)
def Vh (e:Env) (s:Scope) (C:Addr) (c:List (Str×Addr)):Env:=
 {scope:=relabel s e,locals:=C,globals:=e.globals,cells:=c,qual:=e.qual,func:=none,code:=e.code,frame:=e.frame,builtins:=e.builtins}
noncomputable def Bc (X:Cx) (n:List Str) (s:Scope) (C D:Addr) (c:List (Str×Addr)) (f:List Addr) (a:Shared) (H:Hp) (p:PQ):Cx:=
 {X with N:=n,s₀:=a,H₀:=H,env:=Vh X.env s C c,outer:=X.stack,stack:=X.stack,ex:=D::f,fn:=fun x=>s.names.lookup x==some .cell,pn:=X.pn++p,xe:=fun _ _=>False}
def BL (c:List (Option Nat)) (a:L2.St):L2.St:=c.map fun o=>o.bind fun j=>(a[j]?).join
def Sub (b a:L2.St):Prop:=b.length=a.length∧∀(i:Nat) v,b[i]?=some (some v)→a[i]?=some (some v)
def Mi (f:List (Option Nat)) (w:TI) (g:TG) (t:TT) (k:TE):TE:=fun e H Q=>w e H fun J l=>∃W:Nat→Nat→List V→Hp→Prop,(∃n,W 0 n [] l)∧∀i n a H,W i n a H→
 (J.stop i H∧a.length≤sizeLine∧∀p,H p=none→Q (.ref p) (Av H p (.lst a)))∨
 (J.go i H∧a.length<sizeLine∧∀x h,J.yld i H x h→g x (BL f e) h fun c m=>Sub (BL f e) c∧t c m fun b j=>if b=true then k c j fun y o=>∃d,d<n∧W (i+1) d (a++[y]) o else ∃d,d<n∧W (i+1) d a j)
def O3:∀(n:List (Str×NameKind)) (h:Heap) (a:List (Str×Addr)) (x:Str) (c:Addr),(x,c)∈cellsFrom h.objs.size n a→(x,c)∈a∨(h.objs.size≤c∧(x,NameKind.cell)∈n∧(pushCells h n).IsCell c none)
 |[],_,_,_,_,m=>.inl m
 |(name,k)::r,h,a,x,c,m=>by
  unfold cellsFrom at m;unfold pushCells;split at m
  ·rename_i hk;rw [if_pos hk];have f:k=.cell:=by simpa using hk
   have e:h.objs.size+1=(h.push {cls:=.type "cell",data:=.cell none}).objs.size:=(CQ ..).symm;rw [e] at m;rcases O3 r _ _ x c m with q |⟨d,g,i⟩
   ·rcases qa6.mp q with q |q
    ·cases q;refine .inr ⟨AK _,by rw [f];exact AX,?_⟩;exact (show (h.push {cls:=.type "cell",data:=.cell none}).IsCell h.objs.size none from ⟨_,Bx _ rfl,rfl⟩).keeps fun b o e=>pushCells_keeps _ _ b o e
    ·exact .inl q
   ·exact .inr ⟨by rw [←e] at d;exact Lm d,A2 _ g,i⟩
  ·rename_i hk;rw [if_neg hk];rcases O3 r h a x c m with q |⟨d,g,i⟩
   ·exact .inl q
   ·exact .inr ⟨d,A2 _ g,i⟩
def O4:∀(n:List (Str×NameKind)) (h:Heap) (a:List (Str×Addr)),(∀x c,(x,c)∈a→c<h.objs.size)→(∀x y c,(x,c)∈a→(y,c)∈a→x=y)→
 ∀x y c,(x,c)∈cellsFrom h.objs.size n a→(y,c)∈cellsFrom h.objs.size n a→x=y
 |[],_,_,_,i=>i
 |(name,k)::r,h,a,lt,i=>by
  unfold cellsFrom;split
  ·have e:h.objs.size+1=(h.push {cls:=.type "cell",data:=.cell none}).objs.size:=(CQ ..).symm;rw [e];refine O4 r _ _ (fun x c m=>?_) (fun x y c m d=>?_)
   ·rw [←e];rcases qa6.mp m with q |q
    ·cases q;exact IM _
    ·exact IJ (lt x c q)
   ·rcases qa6.mp m with q |q<;>rcases qa6.mp d with b |b
    ·cases q;cases b;rfl
    ·cases q;exact absurd (lt y _ b) (Ea _)
    ·cases b;exact absurd (lt x _ q) (Ea _)
    ·exact i x y c q b
  ·exact O4 r h a lt i
def lookup_mem {a:Type} {l:List (Str×a)} {x:Str} {k:a} (n:(l.map (·.1)).Nodup) (h:(x,k)∈l):l.lookup x=some k:=by
 induction l with
 |nil=>cases h
 |cons p r i=>
  obtain ⟨y,j⟩:=p;rw [Bk,qbH] at n;rw [E4];rcases qa6.mp h with e |e
  ·cases e;simp
  ·have:x≠y:=by rintro rfl;exact n.1 (qaO.mpr ⟨(x,k),e,rfl⟩)
   have b:(x==y)=false:=by simpa using this
   rw [b];exact i n.2 e
def gT {e:Env} {x n:Str} {j:NameKind} {r:List (Str×NameKind)} {k:NameKind} (h:List.lookup x ((if (j==NameKind.free&&e.scope.kind==.function&&e.kindOf n==some .cell)=true then (n,NameKind.cell) else (n,j))::r)=some k):
 (x=n∧(k=j∨(j=.free∧k=.cell)))∨(x≠n∧List.lookup x r=some k):=by
 by_cases a:x=n
 ·subst a;refine .inl ⟨rfl,?_⟩;split at h
  ·rename_i b;rw [E4] at h;simp only [beq_self_eq_true] at h;cases h;simp only [CP] at b;exact .inr ⟨by simpa using b.1.1,rfl⟩
  ·rw [E4] at h;simp only [beq_self_eq_true] at h;cases h;exact .inl rfl
 ·have c:(x==n)=false:=by simpa using a
  refine .inr ⟨a,?_⟩;split at h<;>(rw [E4] at h;simp only [c] at h;exact h)
def Vi {s:Scope} {k:NameKind}:(relabel s e).names.lookup x=some k→∃a,s.names.lookup x=some a∧(k=a∨(a=.free∧k=.cell)):=by
 show (s.names.map _).lookup x=some k→_
 induction s.names with
 |nil=>intro h;cases h
 |cons p r i=>
  obtain ⟨n,j⟩:=p;intro h;rw [Bk] at h;rw [E4];rcases gT h with ⟨b,hk⟩ |⟨b,c⟩
  ·subst b;simp only [beq_self_eq_true];exact ⟨j,rfl,hk⟩
  ·have d:(x==n)=false:=by simpa using b
   rw [d];exact i c
structure FV (X:Cx) (scope:Scope) (Nc:List Str) (cs:List (Option Nat)):Prop where
 kind:scope.kind=.function
 loc:∀y∈scope.names,y.2=.local→scope.names.lookup y.1=some .local
 free:∀y∈scope.names,y.2=.free→X.env.kindOf y.1=some .cell∨X.env.kindOf y.1=some .free
 nd:(scope.names.map (·.1)).Nodup
 len:cs.length=Nc.length
 out:∀(i:Nat) (x:Str) (j:Nat),Nc[i]?=some x→cs[i]?=some (some j)→X.N[j]?=some x∧scope.names.lookup x=some .free
def gU (h:a<b):@LT.lt Nat instLTNat a b:=h
def B0 (h:@LT.lt Nat instLTNat a b):a≠b:=BX h
def Jf (h:@LT.lt Nat instLTNat a b):b≠a:=Ne.symm (BX h)
section
variable {X:Cx} {pins:PQ} {σ:L2.St} {H:Hp} {s:Shared}
def Vj {d:Scope} {N:List Str} {W:List (Option Nat)} {fp:List Addr} {cl:List (Str×Addr)} (S:FV X d N W) (I:Inv X pins σ H s) (f:∀b∈fp,Dx X pins H b) (ob:∀b∈fp,∃o,s.heap.get? b=some o)
 (h:∀x c,(x,c)∈cl→X.env.cells.lookup x=some c∧(x,NameKind.free)∈d.names) (E:∀y∈d.names,y.2=.free→∃c,(y.1,c)∈cl) {g:Shared} (Z:g={s with heap:=s.heap.push {cls:=.type "list",data:=.seq ([]:List Value).toArray}}):
 Inv (Bc X N d g.heap.objs.size s.heap.objs.size (cellsFrom (g.heap.objs.size+1) d.names cl) fp g H pins) [] (BL W σ) H
  {g with heap:=pushCells (g.heap.push {cls:=.type "dict",data:=.dict #[]}) d.names}:=by
 have k3:∀b o,s.heap.get? b=some o→g.heap.get? b=some o:=fun b o e=>by subst Z;exact AW _ e
 have Ky:g.heap.objs.size=s.heap.objs.size+1:=by subst Z;exact CQ ..
 have n:(g.heap.push {cls:=.type "dict",data:=.dict #[]}).objs.size=g.heap.objs.size+1:=CQ ..;have M:∀b o,g.heap.get? b=some o→(pushCells (g.heap.push {cls:=.type "dict",data:=.dict #[]}) d.names).get? b=some o:=fun b o e=>pushCells_keeps _ _ b o (AW _ e);have Y:∀b o,s.heap.get? b=some o→(pushCells (g.heap.push {cls:=.type "dict",data:=.dict #[]}) d.names).get? b=some o:=fun b o e=>M b o (k3 b o e);have F:∀x c,(x,c)∈cl→c<s.heap.objs.size:=fun x c m=>by obtain ⟨v,q⟩:=I.cell x c (h x c m).1;exact q.lt
 have J:∀x c,(cellsFrom (g.heap.objs.size+1) d.names cl).lookup x=some c→(x,c)∈cl∨(g.heap.objs.size+1≤c∧(x,NameKind.cell)∈d.names∧(pushCells (g.heap.push {cls:=.type "dict",data:=.dict #[]}) d.names).IsCell c none):=fun x c e=>by have m:=mem_of_lookup e;rw [←n] at m;have:=O3 d.names _ cl x c m;rw [n] at this;exact this
 have B:∀b∈frs X.stack,b<s.heap.objs.size:=fun b C=>by obtain ⟨_,o,ho,_⟩:=I.stack.mem C;exact AY ho
 have O:∀b,b≠X.env.locals→b∉X.fs→b∉frs X.stack:=fun b P A C=>by
  rcases qa6.mp (I.stkSub b C) with q |q
  ·exact P q
  ·exact A q
 have ok:(Bc X N d g.heap.objs.size s.heap.objs.size (cellsFrom (g.heap.objs.size+1) d.names cl) fp g H pins).Ok:=by
  refine ⟨I.ok.mod,S.kind,I.ok.glob,I.ok.blt,AK _,fun x y c Q l=>?_,fun x hx=>?_,fun x c hf e=>?_,I.ok.hd,I.ok.frames,.inl rfl,fun b C=>?_,fun b o e=>?_,?_,fun b o e C=>?_,fun b C=>?_,?_,I.stkFree⟩
  ·have m1:=mem_of_lookup Q;have m2:=mem_of_lookup l;have m1':(x,c)∈cellsFrom (g.heap.push {cls:=.type "dict",data:=.dict #[]}).objs.size d.names cl:=by rw [n];exact m1
   have m2':(y,c)∈cellsFrom (g.heap.push {cls:=.type "dict",data:=.dict #[]}).objs.size d.names cl:=by rw [n];exact m2
   exact O4 d.names (g.heap.push {cls:=.type "dict",data:=.dict #[]}) cl (fun x c m=>by rw [n,Ky];exact Bn (F x c m) (by omega))
    (fun x y c a b=>I.ok.inj x y c (h x c a).1 (h y c b).1) x y c m1' m2'
  ·have:∃k,(relabel d X.env).names.lookup x=some k∧(k=.cell∨k=.free):=by
    rcases hx with q |q
    ·exact ⟨_,q,.inl rfl⟩
    ·exact ⟨_,q,.inr rfl⟩
   obtain ⟨k,Q,hk⟩:=this;obtain ⟨k0,e0,hk0⟩:=Vi Q;refine qbX.mp (cellsFrom_some _ _ _ ?_);have:k0=.cell∨k0=.free:=by
    rcases hk0 with q |⟨q,_⟩
    ·rw [←q];exact hk
    ·exact .inr q
   rcases this with q |q
   ·subst q;exact .inl e0
   ·subst q;obtain ⟨c,hc⟩:=E _ (mem_of_lookup e0) rfl;refine .inr ?_;cases hl:cl.lookup x with
    |some c'=>rfl
    |none=>
     exfalso;have:∀p∈cl,p.1≠x:=fun p hp e=>by have A:=List.lookup_eq_none_iff.mp hl p hp;rw [e] at A;simp at A
     exact this _ hc rfl
  ·have hk:d.names.lookup x=some .cell:=by have:(d.names.lookup x==some NameKind.cell)=true:=hf;simpa using this
   rcases J x c e with q |⟨R,_,_⟩
   ·have:=lookup_mem S.nd (h x c q).2;rw [hk] at this;cases this
   ·exact Lm R
  ·rcases qa6.mp C with q |q
   ·subst q;refine ⟨B0 (show _<g.heap.objs.size by omega),fun x c e=>?_⟩;rcases J x c e with q |⟨R,_,_⟩
    ·exact BX (F x c q)
    ·exact Jf (Bn (by omega) R)
   ·obtain ⟨o,ho⟩:=ob b q;have hlt:=gU (AY ho);refine ⟨B0 (show _<g.heap.objs.size by omega),fun x c e=>?_⟩;rcases J x c e with q2 |⟨R,_,_⟩
    ·exact (f b q).2.2.2.2.1 x c (h x c q2).1
    ·exact Jf (Bn (by omega) R)
  ·obtain ⟨P,A⟩:=I.bs b o e;exact ⟨k3 b o P,A⟩
  ·show X.base.objs.size≤g.heap.objs.size
   have:=BJ I.ok.bsz I.sz;omega
  ·obtain ⟨P,A⟩:=I.bs b o e;rcases qa6.mp C with q |q
   ·exact absurd q (B0 (AY P))
   ·rcases (f b q).2.2.2.1 with z |z
    ·exact I.ok.noex b o e z
    ·exact absurd (Bn (AY (I.ok.bs b o e).1) z) (Ea _)
  ·rcases qa6.mp C with q |q
   ·subst q;intro z;exact absurd (B _ z) (Ea _)
   ·exact O b (f b q).2.1 (f b q).2.2.1
  ·exact I.stack.of_keeps fun b o e _=>⟨o,k3 b o e,rfl⟩
 refine ⟨ok,rfl,?_,?_,?_,fun x c e=>?_,?_,fun x c e=>?_,fun p hp=>?_,I.hok.kept Y,?_⟩
 ·show AllBare g.gens
  subst Z;exact I.bare
 ·exact Un.kept M
 ·refine ⟨fun _=>none,(Heap.Ns.new g.heap (.type "dict")).keeps (pushCells_keeps _ _),fun i x v Q l e3'=>?_⟩;unfold BL at l;rw [Cg] at l;cases ec:W[i]? with
  |none=>rw [ec] at l;cases l
  |some o=>
   rw [ec] at l;cases o with
   |none=>cases l
   |some j=>
    simp only [G8,Option.bind_some,Option.some.injEq] at l;have e2':σ[j]?=some (some v):=by
     cases ej:σ[j]? with
     |none=>rw [ej] at l;cases l
     |some w=>rw [ej] at l;simp at l;rw [l]
    obtain ⟨hN,G⟩:=S.out i x j Q ec;have T:=mem_of_lookup G;have t:=S.free _ T rfl;obtain ⟨m,hn,hl⟩:=I.loc;obtain ⟨u,r,look⟩:=hl j x v hN e2' (by
     rcases t with q |q
     ·exact .inr (.inl q)
     ·exact .inr (.inr q))
    refine ⟨u,r,.inr ?_⟩;rcases look with ⟨q,_⟩ |⟨_,c,ec',hc⟩
    ·rcases t with z |z<;>(rw [q] at z;cases z)
    ·obtain ⟨c',hc'⟩:=E _ T rfl;have hv:(Bc X N d g.heap.objs.size s.heap.objs.size (cellsFrom (g.heap.objs.size+1) d.names cl) fp g H pins).env.kindOf x=some .cell∨(Bc X N d g.heap.objs.size s.heap.objs.size (cellsFrom (g.heap.objs.size+1) d.names cl) fp g H pins).env.kindOf x=some .free:=by
      rcases e3' with z |z |z
      ·obtain ⟨k0,U,L⟩:=Vi z;rw [G] at U;cases U;rcases L with L |⟨_,L⟩<;>cases L
      ·exact .inl z
      ·exact .inr z
     refine ⟨hv,c,?_,hc.keeps Y⟩;obtain ⟨c2,A⟩:=ok.has x hv;rw [A];rcases J x c2 A with q |⟨_,q,_⟩
     ·rw [←ec',(h x c2 q).1]
     ·have:=lookup_mem S.nd q;rw [G] at this;cases this
 ·rcases J x c e with q |⟨_,_,q⟩
  ·obtain ⟨v,z⟩:=I.cell x c (h x c q).1;exact ⟨v,z.keeps Y⟩
  ·exact ⟨none,q⟩
 ·exact I.hok.fresh (show s.heap.objs.size≤g.heap.objs.size by omega)
 ·rcases J x c e with q |⟨q,_,_⟩
  ·exact I.freeC x c (h x c q).1
  ·exact I.hok.fresh (by omega)
 ·have hp':p∈X.pn++pins:=by
   rcases qb1.mp hp with q |q
   ·exact q
   ·exact absurd q (by simp)
  obtain ⟨U,L,a3,a4,a5⟩:=I.pin p hp';refine ⟨Y _ _ U,L,?_,O p.1 a3 a4,a5⟩
  show p.1≠g.heap.objs.size
  exact B0 (Bn (AY U) (by omega))
 ·show (BL W σ).length=N.length
  simp [BL,S.len]
end
section
variable {X:Cx} {elt tg iter:Expr} {ifs:List Expr} {scope:Scope} {pos:Pos} {Nc:List Str} {cs:List (Option Nat)} {wi:TI} {g:TG} {tc:TT} {te:TE}
def Vk {H r:Hp} {s i j:Shared} {t:List Addr} {k:List (Str×Addr)} {l:List V} {m:List Value} {n:Nat} 
 (I:Inv X p M H s) (f:∀b∈t,Dx X p H b) (G:i={s with heap:=s.heap.push {cls:=.type "list",data:=.seq ([]:List Value).toArray}}) (N:C=i.heap.objs.size)
 (w:Inv (Bc X Nc scope C s.heap.objs.size k t i H p) P F r j) (Q:r s.heap.objs.size=none) (R:l.length≤sizeLine) (S:Vals l m) (T:j.heap.get? s.heap.objs.size=some {cls:=.type "list",data:=.seq m.toArray n})
 {J:Heap} (x:Heap.SameBut C j.heap J):Inv X p M (Av r s.heap.objs.size (.lst l)) {j with heap:=J}:=by
 have E:∀b o,s.heap.get? b=some o→i.heap.get? b=some o:=fun b o e=>by subst G;exact AW _ e
 have Ky:i.heap.objs.size=s.heap.objs.size+1:=by subst G;exact CQ ..
 have Fg:∀b o,s.heap.get? b=some o→b≠s.heap.objs.size:=fun b o e=>B0 (AY e);have q:∀b o,s.heap.get? b=some o→b≠C:=fun b o e=>by rw [N];exact B0 (Bn (AY e) (by omega))
 have W:s.heap.objs.size≠C:=by rw [N];exact B0 (by omega)
 have U:Un (frs X.stack) (s.heap.objs.size::t) H r i.heap j.heap:=w.base;have a:∀b o,s.heap.get? b=some o→b∉t→b∉s.heap.objs.size::t:=fun b o e d h=>by
  rcases qa6.mp h with z |z
  ·exact Fg b o e z
  ·exact d z
 have neT:∀b u,r b=some u→b≠s.heap.objs.size:=fun b u e=>BY e Q;have y:r C=none:=w.free;refine I.call' (s':={j with heap:=J}) (ch:=t) ?_ ?_ ?_ w.bare ?_
 ·show j.os=s.os
  have:=w.os;rw [this]
  show i.os=s.os
  subst G;rfl
 ·refine ⟨fun b o e A h d=>?_,fun b o e A h d=>?_,fun b o e A d=>?_,fun b o e d=>?_,fun b O e=>?_,fun b o u e=>?_,fun b Y e=>?_⟩
  ·exact (x.2 b (q b o e)).trans (U.keep b o (E b o e) A h (a b o e d))
  ·obtain ⟨Z,z⟩:=U.slot b o (E b o e) A h (a b o e d);exact ⟨Z,(x.2 b (q b o e)).trans z⟩
  ·rw [AJ (Fg b o e)];exact U.free b o (E b o e) A (a b o e d)
  ·obtain ⟨o',z⟩:=U.there b o (E b o e) (a b o e d);exact ⟨o',(x.2 b (q b o e)).trans z⟩
  ·have z:=U.tups b O e;rw [AJ (neT b _ z)];exact z
  ·have z:=U.frzs b o u e;rw [AJ (neT b _ z)];exact z
  ·obtain ⟨B,z⟩:=U.tbls b Y e;exact ⟨B,by rw [AJ (neT b _ z)];exact z⟩
 ·intro b u e
  by_cases h:b=s.heap.objs.size
  ·subst h;rw [CA] at e;cases e;exact ⟨R,m,n,S,(x.2 _ W).trans T⟩
  ·rw [AJ h] at e;refine (w.hok b u e).stay (fun c v L z=>(x.2 c ?_).trans z) (fun c z=>by rw [AJ (neT c _ z)];exact z) fun c O z=>by rw [AJ (neT c _ z)];exact z
   rcases L with rfl |L
   ·exact BY e y
   ·exact BY L y
 ·intro b h;obtain ⟨_,f1,_,f3,f4,f5⟩:=f b h;exact ⟨f3,f1,f4,f5⟩
inductive Vl (W:Nat→Nat→List V→Hp→Prop) (Xc:Cx) (σc:L2.St) (tn:Nat→Heap→Prop) (fp:List Addr) (Da:Addr) (n:Nat) (s':Shared):Prop where
 |mk (i:Nat) (acc:List V) (H':Hp) (its:List Value) (k:Nat) (w:W i n acc H') (ii:Inv Xc [] σc H' s') (st:tn i s'.heap) (fr:∀b∈fp,H' b=none) (hD:H' Da=none) (rv:Vals acc its) (ho:s'.heap.get? Da=some {cls:=.type "list",data:=.seq its.toArray k}):Vl W Xc σc tn fp Da n s'
def Vm {use:Option (Value→Sem Unit)} {a:PQ} {Q:VK} (hcalm:X.calm=true) (S:FV X scope Nc cs) (hi:PI X tg iter wi)
 (m:∀(C D:Addr) (d:List (Str×Addr)) (q:List Addr) (F:Shared) (G:Hp) (a:PQ),PG (Bc X Nc scope C D d q F G a) tg g∧FU (Bc X Nc scope C D d q F G a) ifs tc∧PE (Bc X Nc scope C D d q F G a) elt te)
 (hsf:∀x,foldedSetIterable iter X.env x=pure x) (I:Inv X a E H s) (h:Mi cs wi g tc te E H Q)
 (AQ:∀(s6:Shared) (C D:Addr) (H7:Hp) (m6:Str→Option Value),s6.heap.Ns C m6→H7 C=none→X.s₀.heap.objs.size≤C→C≠X.env.locals→(∀x c,X.env.cells.lookup x=some c→c≠C)→(∀p∈X.pn++a,p.1≠C)→
  (∀h',Heap.SameBut C s6.heap h'→Inv X a E H7 {s6 with heap:=h'})→Q (.ref D) H7→compPost (model X.prog X.w) X.A X.xe use QQ (.ref D) C (.ok .next) s6):
 wpAny (model X.prog X.w) X.A (comprehension (.ListComp elt [⟨tg,iter,ifs,0⟩] scope pos) scope X.env ppos (newList []) false (eval iter X.env) use) QQ X.xe s:=by
 obtain ⟨cl,hclos,hcl,hcl2⟩:=Vf (scope:=scope) (env:=X.env) fun y hy hf=>I.ok.has y.1 (S.free y hy hf);refine wpAny_comprehension_free (use:=use) rfl hsf hclos S.kind S.loc (Ap (hi a s E H _ I h) fun xv s1 h1=>Ap h1 fun itv f h2=>?_);obtain ⟨it,q,tn,J,H2,e,U,T,st2,f2,W,⟨n0,w0⟩,turn⟩:=h2;subst e;refine EJ ?_;generalize e3:({f with heap:=f.heap.push {cls:=.type "list",data:=.seq ([]:List Value).toArray}}:Shared)=t;refine Vg ?_;have ob2:∀b∈q,∃o,f.heap.get? b=some o:=fun b m=>let ⟨o,e,_⟩:=T.obj _ _ st2 b m;⟨o,e⟩;have I4:=Vj (fp:=q) (cl:=cl) S U f2 ob2 hcl hcl2 e3.symm;generalize e4:({t with heap:=pushCells (t.heap.push {cls:=.type "dict",data:=.dict #[]}) scope.names}:Shared)=s4 at I4;generalize ecl:cellsFrom (t.heap.objs.size+1) scope.names cl=d at I4;obtain ⟨pg,pt,pe⟩:=m t.heap.objs.size f.heap.objs.size d q t H2 a;generalize B:Bc X Nc scope t.heap.objs.size f.heap.objs.size d q t H2 a=l at I4 pg pt pe;have xP:l.prog=X.prog:=by subst B;rfl
 have xw:l.w=X.w:=by subst B;rfl
 have xK:l.K=X.K:=by subst B;rfl
 have xA:l.A=X.A:=by subst B;rfl
 have xE:l.env=Vh X.env scope t.heap.objs.size d:=by subst B;rfl
 have xL:l.env.locals=t.heap.objs.size:=by subst B;rfl
 have xe:l.xe=fun _ _=>False:=by subst B;rfl
 have xc:l.calm=true:=by subst B;exact hcalm
 have xex:l.ex=f.heap.objs.size::q:=by subst B;rfl
 have L:=I4.ok;have k3:∀b o,f.heap.get? b=some o→t.heap.get? b=some o:=fun b o e=>by subst e3;exact AW _ e
 have Ky:t.heap.objs.size=f.heap.objs.size+1:=by subst e3;exact CQ ..
 have k34:∀b o,t.heap.get? b=some o→s4.heap.get? b=some o:=fun b o e=>by subst e4;exact pushCells_keeps _ _ b o (AW _ e)
 have hDC:f.heap.objs.size≠l.env.locals:=by rw [xL];exact B0 (by omega)
 have N:∀x c,l.env.cells.lookup x=some c→c≠f.heap.objs.size:=fun x c e=>(L.exf _ (by rw [xex];exact AX)).2 x c e;have hDpin:∀p∈l.pn,p.1≠f.heap.objs.size:=fun p w=>by
  have hp':p∈X.pn++a:=by subst B;exact w
  exact B0 (AY (U.pin p hp').1)
 have Y:f.heap.objs.size∉q:=fun hm=>by obtain ⟨o,e⟩:=ob2 _ hm;exact absurd (AY e) (Ea _)
 have Z:f.heap.objs.size∈l.ex:=by rw [xex];exact AX
 have hDfs:f.heap.objs.size∉l.fs:=L.exfs _ Z;have fpC:∀{po:PQ} {H':Hp},(∀b∈q,H' b=none)→(∀p∈po,p.1=f.heap.objs.size)→∀b∈q,Dx l po H' b:=fun {po H'} hn w b m=>by
  have O:b∈l.ex:=by rw [xex];exact A2 _ m
  refine ⟨hn b m,(L.exf b O).1,L.exfs b O,.inl O,(L.exf b O).2,fun p hpp=>?_⟩;rcases qb1.mp hpp with z |z
  ·have hp':p∈X.pn++a:=by subst B;exact z
   exact (f2 b m).2.2.2.2.2 p hp'
  ·rw [w p z];intro e;exact Y (e ▸ m)
 have loop:∀sx,sx=s4→codeAny (model X.prog X.w) X.A (.compLoop (.ListComp elt [⟨tg,iter,ifs,0⟩] scope pos) 0 (.ref it) (.ref f.heap.objs.size) l.env)
  (compPost (model X.prog X.w) X.A X.xe use QQ (.ref f.heap.objs.size) t.heap.objs.size) sx:=by
  rintro sx rfl;refine gQ (Vl W l (BL cs E) tn q f.heap.objs.size) ?_ n0
   ⟨0,[],H2,[],0,w0,I4,?_,fun b m=>(f2 b m).1,U.hok.fresh (AK _),.nil,?_⟩
  ·rintro n s5 ⟨i,P,H5,A,k,w5,I5,st5,fr5,hD5,R,ho5⟩;have pin1:Inv l [(f.heap.objs.size,{cls:=.type "list",data:=.seq A.toArray k})] (BL cs E) H5 s5:=I5.pins_of fun p w=>by rw [qaG] at w;subst w;exact ⟨ho5,hD5,hDC,hDfs,fun v z=>by cases z⟩
   have M:∀p∈[((f.heap.objs.size:Addr),({cls:=.type "list",data:=.seq A.toArray k}:Obj))],p.1=f.heap.objs.size:=fun p w=>by rw [qaG] at w;subst w;rfl
   rcases turn i n P H5 w5 with ⟨stop,hlen,qn⟩ |⟨go,hlen,step⟩
   ·have z1:=T.done l xP xw xK xc i _ s5 (BL cs E) H5 (fun _ _=>False) pin1 (fpC fr5 M) st5 stop;rw [xA] at z1;refine Bm z1 (fun r s6 z1_=>?_) fun _ _ z=>False.elim z;obtain ⟨hr,I6⟩:=z1_;subst hr;obtain ⟨m6,hn6,_⟩:=I6.loc;obtain ⟨ho6,hD6,_⟩:=I6.pin _ (BA _ AX);rw [xL] at hn6;have lt2:∀b,b<f.heap.objs.size→b≠t.heap.objs.size:=fun b m=>B0 (Bn m (by omega));refine AQ s6 t.heap.objs.size f.heap.objs.size (Av H5 f.heap.objs.size (.lst P)) m6 hn6 ?_ (BJ U.sz (by omega)) ?_ ?_ ?_ ?_ (qn _ hD6)
    ·rw [AJ (Jf (by omega))];have:=I6.free;rw [xL] at this;exact this
    ·obtain ⟨m2,hn2,_⟩:=U.loc;exact Ne.symm (lt2 _ hn2.lt)
    ·intro x c hx;obtain ⟨v,hv⟩:=U.cell x c hx;obtain ⟨o,ho,_⟩:=hv;exact lt2 _ (AY ho)
    ·intro p w;exact lt2 _ (AY (U.pin p w).1)
    ·intro h' sb;subst B;exact Vk U f2 e3.symm rfl I6 hD6 hlen R ho6 sb
   ·have z1:=T.item l xP xw xK xc i _ s5 (BL cs E) H5 (fun _ _=>False) pin1 (fpC fr5 M) st5 go;rw [xA] at z1;refine Bm z1 (fun r s6 z2_=>?_) fun _ _ z=>False.elim z;obtain ⟨u,hr,h6⟩:=z2_;subst hr;refine Bm h6 (fun _ s7 z3_=>?_) fun _ _ z=>False.elim z;obtain ⟨x,H7,I7,r7,y7,st7,fr7⟩:=z3_;have I7':=I7.pinned (fp:=q) (fpC fr7 M) (T.obj _ _ st7);have z2:=pg _ s7 (BL cs E) H7 x u _ I7' r7 (step x H7 y7);rw [xP,xw,xA,xe] at z2;refine Bm z2 (fun _ s8 z4_=>?_) fun _ _ z=>False.elim z;obtain ⟨σ8,H8,I8,sub8,q8⟩:=z4_;have z3:=pt _ s8 σ8 H8 _ I8 q8;rw [xP,xw,xA,xe] at z3;refine Bm z3 (fun ok s9 z5_=>?_) fun _ _ z=>False.elim z;obtain ⟨H9,I9,q9⟩:=z5_;have back:∀{sy:Shared} {Hy:Hp},Inv l ([(f.heap.objs.size,{cls:=.type "list",data:=.seq A.toArray k})]++Gm q s7.heap) σ8 Hy sy→
     Inv l [] (BL cs E) Hy sy∧tn (i+1) sy.heap∧(∀b∈q,Hy b=none)∧Hy f.heap.objs.size=none∧sy.heap.get? f.heap.objs.size=some {cls:=.type "list",data:=.seq A.toArray k}:=fun {sy Hy} Iy=>by
     obtain ⟨ho,hD,_⟩:=Iy.pin _ (BA _ (G4 _ AX));refine ⟨(Iy.pins_of fun p w=>absurd w (by simp)).weak (sub8.1) (fun j v z=>sub8.2 j v z),T.keep _ _ _ st7 fun b m o e=>(Iy.pin (b,o) (BA _ (BA _ (Kk m e)))).1,fun b m=>?_,hD,ho⟩;obtain ⟨o,e,_⟩:=T.obj _ _ st7 b m;exact (Iy.pin (b,o) (BA _ (BA _ (Kk m e)))).2.1
    cases ok with
    |false=>simp only [Cz,if_false] at q9 ⊢;obtain ⟨n',hn',w'⟩:=q9;obtain ⟨a1,a2,a3,a4,a5⟩:=back I9;exact ⟨n',hn',i+1,P,H9,A,k,w',a1,a2,a3,a4,R,a5⟩
    |true=>
     simp only [if_true] at q9 ⊢;have z4:=pe _ s9 σ8 H9 _ I9 q9;rw [xP,xw,xA,xe] at z4;refine Bm z4 (fun y s10 z6_=>?_) fun _ _ z=>False.elim z;obtain ⟨yv,H10,I10,r10,n',hn',w'⟩:=z6_;obtain ⟨a1,a2,a3,a4,a5⟩:=back I10;have hlen':=R.length;refine wpAny_list_append_plain ⟨k,a5⟩ (fun h' ⟨k',hl'⟩ sb=>?_) (by rw [Bh];omega);have tu:Inv l [] (BL cs E) H10 {s10 with heap:=h'}:=a1.turned (t':=s10.toks) (it:=f.heap.objs.size) (fun b o m e=>(sb.2 b m).trans e) a4 hDC (.inl Z) N (fun p w=>by
      rcases qb1.mp w with z |z
      ·exact hDpin p z
      ·exact absurd z (by simp))
     refine ⟨n',hn',i+1,P++[yv],H10,A++[y],k',w',tu,T.keep _ _ _ a2 (fun b m o e=>(sb.2 b (fun z=>Y (z ▸ m))).trans e),a3,a4,R.append (.cons r10 .nil),?_⟩;rw [hl'];simp
  ·exact T.keep _ _ _ st2 fun b m o e=>k34 b o (k3 b o e)
  ·refine k34 _ _ ?_;subst e3;exact Bx _ rfl
 have AQ:=loop s4 rfl;have hst4:tn 0 s4.heap:=T.keep _ _ _ st2 fun b m o e=>k34 b o (k3 b o e);rw [xE] at AQ;have:=codeAny_compStart_list AQ (T.self X.A 0 s4 _ _ hst4 AQ);exact this
def gV (d:X.calm=true) (S:FV X scope Nc cs) (j:PI X tg iter wi)
 (k:∀(C D:Addr) (c:List (Str×Addr)) (f:List Addr) (a:Shared) (b:Hp) (p:PQ),PG (Bc X Nc scope C D c f a b p) tg g∧FU (Bc X Nc scope C D c f a b p) ifs tc∧PE (Bc X Nc scope C D c f a b p) elt te)
 (e:∀x,foldedSetIterable iter X.env x=pure x:=by intro _;rfl):PE X (.ListComp elt [⟨tg,iter,ifs,0⟩] scope pos) (Mi cs wi g tc te):=by
 intro p s t H Q I h;rw [eval_ListComp];exact Vm (use:=none) d S j k e I h fun u C D l m n _ _ _ _ _ i q=>⟨m,n,fun o r=>⟨.ref D,l,i o r,rfl,q⟩⟩
end
def wB {b:Type}:Out b→Out b
 |.ok a h=>.ok a h
 |_=>.stuck
@[simp] theorem tJ {b:Type} (a:b) (h:HD):wB (.ok a h)=.ok a h:=rfl
def Jg {e g i j:Type} {K:Frag} {R:List Addr→Hp→e→g→Prop} {l:List Addr→Hp→i→j→Prop} {Q:j→Hp→Prop} {q:g→Hp→Prop} {o:Out e} {k:e→HD→Out i} 
 (h:wa K l m H E Q ((wB o).bind k)) (f:∀a c v d b,o=.ok a c→m <+:d→Kp H b→HR K d c b→R d b a v→wa K l d b E Q (k a c)→q v b):wa K R m H E0 q o:=by
 cases o with
 |ok a c=>exact fun v d b p kk n r=>f a c v d b rfl p kk n r (wa.ahead p kk h)
 |err C fs c=>exact False.elim h
 |stuck=>exact False.elim h
def Cs (c:List (Option Nat)) (a:Ag):Ag:=c.map fun o=>o.bind fun j=>(a[j]?).join
def join_some {b:Type} {l:List (Option b)} {j:Nat} {a:b}:(l[j]?).join=some a↔l[j]?=some (some a):=by
 cases h:l[j]? with
 |none=>simp
 |some o=>simp
def ER.comp {K:Frag} (c:List (Option Nat)) (g:ER K m H b f):ER K m H (Cs c b) (BL c f):=by
 refine ⟨by simp [Cs,BL],fun i d e=>?_⟩;unfold Cs at e;rw [Cg] at e;cases a:c[i]? with
 |none=>rw [a] at e;cases e
 |some o=>
  rw [a] at e;cases o with
  |none=>cases e
  |some j=>simp only [G8,Option.bind_some,Option.some.injEq] at e;obtain ⟨v,h,r⟩:=g.2 j d (join_some.mp e);refine ⟨v,?_,r⟩;unfold BL;rw [Cg,a];simp only [G8,Option.bind_some,Option.some.injEq];exact join_some.mpr h
def Sub.set {c:List (Option Nat)} {a:L2.St} {i:Nat} (h:c[i]?=some none) (s:Sub (BL c b) a):Sub (BL c b) (a.set i (some v)):=by
 refine ⟨by rw [s.1];simp,fun j w e=>?_⟩;have d:i≠j:=by rintro rfl;unfold BL at e;rw [Cg,h] at e;cases e
 rw [BI d];exact s.2 j w e
def Sub.refl (a:L2.St):Sub a a:=⟨rfl,fun _ _ h=>h⟩
def GA (K:Frag) (e:List (Option Nat)) (g:TG) (s:MG):Prop:=
 ∀m H d v f a c Q,DV K m H d v→ER K m H f (BL e a)→s d f=some c→(∀b,Sub (BL e a) b→ER K m H c b→Q b H)→g v (BL e a) H Q
def Vn {K:Frag} {cs:List (Option Nat)} {i:Nat} (h:cs[i]?=some none):GA K cs (CH i) (AB i):=fun m H d v f a b Q r c e q=>by simp only [AB,Option.some.injEq] at e;subst e;exact q _ ((Sub.refl _).set h) (c.set r)
def Vo {K:Frag} {cs:List (Option Nat)} {i j:Nat} (h:cs[i]?=some none) (c:cs[j]?=some none):GA K cs (Hi K 2 (DG (CH i) (DG (CH j) Gk))) (Bs i j):=fun m H d v u f g Q r k e q=>by
 unfold Bs at e;split at e
 ·rename_i a b;cases e;simp only [DV,DVs] at r;obtain ⟨p,w,rfl,l,n,x,rfl,o,s,y,rfl,t,rfl⟩:=r;exact ⟨p,_,rfl,tq l,rfl,n,_,rfl,s,_,rfl,rfl,q _ (((Sub.refl _).set h).set c) ((k.set o).set t)⟩
 ·cases e
abbrev GB (X:Cx) (E:XK) (i:List Expr) (t:MT):Prop:=FU X i (Fe X.K E t)
def AH:MT:=fun _ h=>.ok true h
def gW:GB X E [] AH:=fun a s b H Q I z=>by obtain ⟨m,d,h,c,e,p⟩:=z;exact (gR a s b H Q I (p true m H (AI _) (.refl _) c rfl))
def gX {t:MT} (h:Ee X E c t):GB X E [c] t:=gS h
open Classical in
def DQ (s:Bj) (i:List D) (e:MG) (t:MT) (f:ME) (a:Ag):List D→HD→Out (List D)
 |[],h=>if A7 s i h then .ok [] h else .stuck
 |d::g,h=>if A7 s i h then match e d a with
   |none=>.stuck
   |some c=>(wB (t c h)).bind fun b j=>if b=true then (wB (f c j)).bind fun y k=>(DQ s i e t f a g k).bind fun l m=>.ok (y::l) m else DQ s i e t f a g j
  else .stuck
def Ax (c:List (Option Nat)) (i:MI) (s:MG) (t:MT) (f:ME):ME:=fun a h=>(i a h).bind fun x b=>if x.1.length≤sizeLine then (DQ x.2 x.1 s t f (Cs c a) x.1 b).bind BG else .stuck
def Out.bind_assoc {b c d:Type} (o:Out b) (k:b→HD→Out c) (l:c→HD→Out d):(o.bind k).bind l=o.bind fun a h=>(k a h).bind l:=by cases o<;>rfl
section
variable {X:Cx} {E:XK} {elt tg iter:Expr} {ifs:List Expr} {scope:Scope} {pos:Pos} {Nc:List Str} {cs:List (Option Nat)} {it:MI} {gg:TG} {sg:MG} {t:MT} {f:ME}
inductive Vp (K:Frag) (E:XK) (Q:VK) (src:Bj) (items:List D) (sg:MG) (t:MT) (f:ME) (ρc:Ag) (m1:List Addr) (H1:Hp) (i n:Nat) (acc:List V) (H2:Hp):Prop where
 |mk (e:n=items.length - i) (l:i≤items.length) (a:acc.length≤i) (m2:List Addr) (h2:HD) (dacc:List D) (p:m1 <+:m2) (k:Kp H1 H2) (hr:HR K m2 h2 H2) (da:DVs K m2 H2 dacc acc) (q:wa K (rD K) m2 H2 E Q ((DQ src items sg t f ρc (items.drop i) h2).bind fun ys h3=>BG (dacc++ys) h3)):Vp K E Q src items sg t f ρc m1 H1 i n acc H2
def Vq (hg:GA X.K cs gg sg):∀k H Q,tD X.K E (Ax cs it sg t f) k H Q→Mi cs (tM X.K (Hs X.K) E it) gg (Fe X.K E0 t) (tD X.K E0 f) k H Q:=by
 refine ?_;rintro k H Q ⟨m,o,h,hr,er,p⟩;refine ⟨m,o,h,hr,er,wa.bind p fun x h1 J M H1 _ p1 k1 N r1 L=>?_⟩;obtain ⟨a,O⟩:=x;dsimp only at L;split at L
 ·rename_i hz;have P:ER X.K M H1 (Cs cs o) (BL cs k):=(er.keep p1 k1).comp cs;refine ⟨Vp X.K E Q O a sg t f (Cs cs o) M H1,
   ⟨a.length,rfl,EI _,AK _,M,h1,[],AI _,.refl _,N,.nil,by simpa using L⟩,?_⟩
  rintro i n acc H2 ⟨rfl,R,ha,r,S,e,s,u,g,T,q⟩
  by_cases c:i<a.length
  ·rw [G3 c] at q;unfold DQ at q;split at q
   ·rename_i U;obtain ⟨W,hy⟩:=(r1 i r S H2 s u g U).1 c;refine .inr ⟨W,by omega,fun y Y Z=>?_⟩;obtain ⟨l,hr3,d,ed,rd⟩:=hy y Y Z;have ed':d=a[i]:=by rw [Bl c] at ed;exact (Option.some.inj ed).symm
    subst ed';split at q
    ·exact q.elim
    ·rename_i j es;have er3:ER X.K r Y (Cs cs o) (BL cs k):=P.keep s (u.trans l);refine hg r Y _ y (Cs cs o) k j _ rd er3 es fun σ4 A B=>⟨A,r,j,S,hr3,B,?_⟩
     rw [Out.bind_assoc] at q;refine Jg (wa.ahead (AI _) l q) fun b h5 v m5 H5 _ C F G r5 I=>?_;cases r5;cases b with
     |false=>simp only [Cz,if_false] at I ⊢;exact ⟨a.length - (i+1),by omega,rfl,c,by omega,m5,h5,e,s.trans C,(u.trans l).trans F,G,DVs.keep C (l.trans F) T,I⟩
     |true=>simp only [if_true] at I ⊢;rw [Out.bind_assoc] at I;refine ⟨m5,j,h5,G,B.keep C F,Jg I fun z h6 w m6 H6 _ p6 k6 hr6 r6 q6=>?_⟩;refine ⟨a.length - (i+1),by omega,rfl,c,by simp;omega,m6,h6,e++[z],(s.trans C).trans p6,((u.trans l).trans F).trans k6,hr6,(DVs.keep (C.trans p6) ((l.trans F).trans k6) T).app (.cons r6 .nil),?_⟩;rw [Out.bind_assoc] at q6;simp only [Out.bind_ok] at q6;simpa using q6
   ·exact q.elim
  ·have he:i=a.length:=Ls R (IP c);subst he;rw [List.drop_length] at q;unfold DQ at q;split at q
   ·rename_i U;simp only [Out.bind_ok,FO] at q;obtain ⟨z1,z2⟩:=Gu g T q;exact .inl ⟨(r1 _ r S H2 s u g U).2 rfl,z1,z2⟩
   ·exact q.elim
 ·exact L.elim
def gY (h:X.calm=true) (S:FV X scope Nc cs) (d:DP X E tg iter it) (e:GA X.K cs gg sg)
 (i:∀(C D:Addr) (c:List (Str×Addr)) (a:List Addr) (s:Shared) (H:Hp) (p:PQ),PG (Bc X Nc scope C D c a s H p) tg gg∧GB (Bc X Nc scope C D c a s H p) E0 ifs t∧Ev (Bc X Nc scope C D c a s H p) E0 elt f)
 (b:∀x,foldedSetIterable iter X.env x=pure x:=by intro _;rfl):Ev X E (.ListComp elt [⟨tg,iter,ifs,0⟩] scope pos) (Ax cs it sg t f):=by
 exact BR (gV (g:=gg) (tc:=Fe X.K E0 t) (te:=tD X.K E0 f) h S d i b) (Vq e)
def gZ {i:Nat} {x:Str} {g l:Pos} (n:X.calm=true) (W:X.N.Nodup) (u:X.N[i]?=some x) (Y:Hf X.env.scope x) (S:FV X scope Nc cs) (Z:DP X E tg iter it) (hg:GA X.K cs gg sg)
 (w:∀(C D:Addr) (d:List (Str×Addr)) (A:List Addr) (j:Shared) (k:Hp) (c:PQ),PG (Bc X Nc scope C D d A j k c) tg gg∧GB (Bc X Nc scope C D d A j k c) E0 ifs t∧Ev (Bc X Nc scope C D d A j k c) E0 elt f)
 (B:∀x,foldedSetIterable iter X.env x=pure x:=by intro _;rfl) (F:swapsWith (.ListComp elt [⟨tg,iter,ifs,0⟩] scope pos) (some (.Name x g)) l.line X.env=pure true:=by rfl)
 (hf:X.fn x=true∨X.env.scope.names.lookup x=some .local:=by first |exact .inl rfl |exact .inr rfl |assumption):Ex X E (.Assign [.Name x g] (.ListComp elt [⟨tg,iter,ifs,0⟩] scope pos) l) (Am i (Ax cs it sg t f)):=by
 rintro c s r H D I ⟨m,ρ,h,hr,O,p⟩;have hq:Mi cs (tM X.K (Hs X.K) E it) gg (Fe X.K E0 t) (tD X.K E0 f) r H (fun v P=>D.nx (r.set i (some v)) P):=Vq hg r H _ ⟨m,ρ,h,hr,O,wg.bind p fun y h1 v m1 P _ p1 k1 G r1 q1=>(q1.here G) _ ((O.keep p1 k1).set r1)⟩;rw [exec_Assign_Name_used _ _ _ _ F];refine Aj (wpAny_standAt (Aj ?_))
 show wpAny _ X.A (do let _ ←comprehension (.ListComp elt [⟨tg,iter,ifs,0⟩] scope pos) scope X.env _ (newList []) false (eval iter X.env) (some (assign (.Name x g) X.env))) _ _ s
 refine Aj (Bm (Vm (QQ:=fun _ s'=>SP X c D .next s') n S Z w B I hq fun Q C Dd R m6 hn hC h0 T U hp J q=>?_) (fun _ s' z=>AD (AD z)) fun _ _ z=>z);have I6:Inv X c r R Q:=J Q.heap ⟨rfl,fun _ _=>rfl⟩;refine wpAny_assign_Name (Ke I6 W u Y (v:=.ref Dd) rfl (fun s7 I7 L=>?_) hf);obtain ⟨a,M,ha⟩:=L;have N:C≠a:=by
  rcases ha with z |z
  ·rw [z];exact T
  ·exact Ne.symm (U x a z)
 obtain ⟨o,es,ep,e1,e2⟩:=hn;refine ⟨m6,⟨o,es,ep,(M.2 C N).trans e1,e2⟩,fun h' sb=>?_⟩;exact ⟨_,R,I7.turned (t':=s7.toks) (it:=C) (fun b o w e=>(sb.2 b w).trans e) hC T (.inr h0) U hp,q⟩
end
section
variable {X:Cx} {E:XK}
noncomputable def EU:D→HD→Option String
 |.non,_=>some "NoneType"
 |.bl _,_=>some "bool"
 |.int _,_=>some "int"
 |.str _,_=>some "str"
 |.tup _,_=>some "tuple"
 |.loc l,h=>match h[l]? with
  |some (.lst _)=>some "list"
  |_=>none
 |_,_=>none
def g0 {t:String} (f:HR X.K m h H) (r:DV X.K m H d v) (e:EU d h=some t):Fb X.K H v (.type t):=by
 cases d with
 |non=>simp only [EU,Option.some.injEq,DV] at e r;subst e r;exact .non
 |bl b=>simp only [EU,Option.some.injEq,DV] at e r;subst e r;exact .bl _
 |int i=>simp only [EU,Option.some.injEq,DV] at e r;subst e r;exact .int _
 |str x=>simp only [EU,Option.some.injEq,DV] at e r;subst e r;exact .str _
 |tup g=>simp only [EU,Option.some.injEq,DV] at e r;subst e;obtain ⟨a,j,rfl,c,_⟩:=r;exact .tup (tq c)
 |loc l=>
  simp only [DV] at r;obtain ⟨a,rfl,c⟩:=r;simp only [EU] at e;split at e
  ·rename_i g k;cases e;obtain ⟨j,n,_⟩:=f.cells l _ a k c;exact .lst n
  ·cases e
 |_=>simp [EU] at e
noncomputable def subL:List (String×String×Bool):=[("NoneType","int",false),("bool","int",true),("int","int",true),("str","int",false),("tuple","int",false),("list","int",false),("NoneType","bool",false),("bool","bool",true),("int","bool",false),("str","bool",false),("tuple","bool",false),("list","bool",false),("NoneType","tuple",false),("bool","tuple",false),("int","tuple",false),("str","tuple",false),("tuple","tuple",true),("list","tuple",false),("NoneType","str",false),("bool","str",false),("int","str",false),("str","str",true),("tuple","str",false),("list","str",false),("NoneType","list",false),("bool","list",false),("int","list",false),("str","list",false),("tuple","list",false),("list","list",true),("dict","int",false),("dict","bool",false),("dict","tuple",false),("dict","str",false),("dict","list",false)]
def Mj (t c:String):Option Bool:=(subL.find? fun p=>p.1==t&&p.2.1==c).map fun p=>p.2.2
def g4 {K:Frag}:∀p∈subL,kitOne K (.type p.1) (.type p.2.1)=some p.2.2:=by unfold subL;simp only [List.forall_mem_cons];exact ⟨rfl,rfl,rfl,rfl,rfl,rfl,rfl,rfl,rfl,rfl,rfl,rfl,rfl,rfl,rfl,rfl,rfl,rfl,rfl,rfl,rfl,rfl,rfl,rfl,rfl,rfl,rfl,rfl,rfl,rfl,rfl,rfl,rfl,rfl,rfl,fun _ h=>nomatch h⟩
def Vr {K:Frag} {t c:String} {b:Bool} (h:Mj t c=some b):kitOne K (.type t) (.type c)=some b:=by unfold Mj at h;rw [qb6] at h;obtain ⟨p,a,rfl⟩:=h;have e:=List.find?_some a;rw [CP,beq_iff_eq,beq_iff_eq] at e;rw [←e.1,←e.2];exact g4 p (List.mem_of_find?_eq_some a)
def B1:D→D→HD→Out D:=fun x y h=>match y,EU x h with
 |.ty T,some t=>match Mj t T with
  |some b=>.ok (.bl b) h
  |none=>.stuck
 |_,_=>.stuck
def g5 {x:Str} {T:String} (h:Gl X x) (a:X.mg x=none) (b:bootBuiltins x=some (.type T)) (c:x≠"__name__":=by decide) (d:(x==("__debug__":Str))=false:=by decide):Ev X E (.Name x pos) (mC (.ty T)):=
 Hk (aV (v:=.ty T) h a b rfl c d) fun _ _=>by simp [DV]
def O5 (n:List Int):∀j,j≤n.length→preSum (fun i=>n.getD i 0) j=(n.take j).sum
 |0,_=>by simp [preSum]
 |j+1,h=>by rw [preSum,O5 n j (by omega),List.take_succ_eq_append_getElem (by omega),Dw];simp [EG,Bl (show j<n.length by omega)]
def O6 {h c d:Heap} (k:∀b o,h.get? b=some o→c.get? b=some o) (a:h.objs.size≤i) (hk:∀b o,b∉[i]→c.get? b=some o→d.get? b=some o):∀b o,h.get? b=some o→d.get? b=some o:=fun b o e=>hk b o (by rw [qaG];exact B0 (Bn (AY e) a)) (k b o e)
def Vs {n:List Int} {a:List Value} (r:Vals (n.map V.int) a) {i:Nat} {v:Value} (e:a.toArray[i]?=some v):∃t,v=.int (n.getD i 0) t:=by
 have b:a[i]?=some v:=by simpa using e
 have f:i<a.length:=(qa1.mp b).1;have g:n.length=a.length:=by have:=r.length;simpa using this
 have c:(n.map V.int)[i]?=some (V.int (n.getD i 0)):=by rw [Cg,Bl (by omega)];simp [EG,Bl (show i<n.length by omega)]
 obtain ⟨u,h,t,d⟩:=r.get c;rw [b] at h;cases h;exact ⟨t,d⟩
def g6 (y:X.calm=true):De X (.builtin "sum") (fun x H Q=>∃(p:Addr) (n:List Int),x=[.ref p]∧(SqL X.K H p (n.map V.int)∨SqT X.K H p (n.map V.int))∧Q (.int n.sum) H):=by
 intro l s J H x L Q I r h;obtain ⟨p,n,rfl,f,q⟩:=h;obtain ⟨u,rfl,B⟩:=Ec r;cases B;have m:X.A.in1.handled=none:=I.ok.hd y;rcases f with f |f
 ·obtain ⟨a,g,d,C⟩:=I.list f;have j:=g.length;rw [Ci] at j;have c:p<s.heap.objs.size:=by obtain ⟨_,e,_⟩:=d.isList;exact AY e
  refine call_sum_walkG (wpAny_pyIter_list d.isList ?_);refine ⟨s.heap.objs.size,[s.heap.objs.size,p],[s.heap.objs.size],a.toArray.size,_,_,fun i=>n.getD i 0,rfl,Walks.list (A:=X.A.in1) m _ p (B0 c) a.toArray,⟨⟨_,Bx _ rfl,rfl,rfl⟩,d.isList.push _⟩,fun b k=>?_,fun i v e=>Vs g e,fun F G t hk=>?_⟩
  ·show b<(s.heap.push _).objs.size
   rw [CQ];rcases qa6.mp k with z |z
   ·rw [z];exact IM _
   ·rw [qaG.mp z];exact IJ c
  ·have e:preSum (fun i=>n.getD i 0) a.toArray.size=n.sum:=by rw [Bh,←j,O5 n _ (AK _),List.take_length]
   rw [e];exact ⟨.int n.sum,H,I.kept (O6 (fun b o e=>AW _ e) (AK _) hk),⟨t,rfl⟩,q⟩
 ·obtain ⟨a,g,d,C⟩:=I.tuple f;have j:=g.length;rw [Ci] at j;have w:s.heap.IsTuple p a.toArray:=d;have c:p<s.heap.objs.size:=d.lt;refine call_sum_walkG (wpAny_pyIter_tuple w ?_);refine ⟨s.heap.objs.size,[s.heap.objs.size,p],[s.heap.objs.size],a.toArray.size,_,_,fun i=>n.getD i 0,rfl,Walks.tuple (A:=X.A.in1) m _ p (B0 c) a.toArray,⟨⟨_,Bx _ rfl,rfl,rfl⟩,w.push _⟩,fun b k=>?_,fun i v e=>Vs g e,fun F G t hk=>?_⟩
  ·show b<(s.heap.push _).objs.size
   rw [CQ];rcases qa6.mp k with z |z
   ·rw [z];exact IM _
   ·rw [qaG.mp z];exact IJ c
  ·have e:preSum (fun i=>n.getD i 0) a.toArray.size=n.sum:=by rw [Bh,←j,O5 n _ (AK _),List.take_length]
   rw [e];exact ⟨.int n.sum,H,I.kept (O6 (fun b o e=>AW _ e) (AK _) hk),⟨t,rfl⟩,q⟩
def GC:D→Option Int
 |.int i=>some i
 |_=>none
def BS:D→HD→Out D:=fun x h=>match BB x h with
 |some d=>match Bp (d.map GC) with
  |some n=>.ok (.int n.sum) h
  |none=>.stuck
 |none=>.stuck
def O7:∀{b:List D} {a:List V} {n:List Int},DVs X.K m H b a→Bp (b.map GC)=some n→a=n.map V.int
 |[],a,n,r,e=>by simp only [DVs] at r;simp [Bp] at e;subst r e;rfl
 |d::b,a,n,r,e=>by
  simp only [DVs] at r;obtain ⟨v,w,rfl,f,c⟩:=r;rw [Bk] at e;cases d with
  |int i=>simp only [GC,Bp,qb6] at e;obtain ⟨g,h,rfl⟩:=e;simp only [DV] at f;subst f;rw [O7 c h];rfl
  |_=>simp [GC,Bp] at e
def g7 (b:X.calm=true):C1 X (.builtin "sum") (Ai BS):=by
 refine ⟨_,g6 b,fun m H h E k l Q a r q=>Fi r q fun d v c f q=>?_⟩;unfold BS at q;split at q
 ·rename_i x e;split at q
  ·rename_i n g;obtain ⟨p,w,rfl,i,j⟩:=Kt a f e;have:=O7 j g;subst this;exact ⟨p,n,c,i,Bb a q (by simp [DV])⟩
  ·exact q.elim
 ·exact q.elim
def g8 (t:X.calm=true):De X (.builtin "all") (fun x H Q=>∃(p:Addr) (bs:List Bool),x=[.ref p]∧SqL X.K H p (bs.map V.bl)∧Q (.bl (bs.all id)) H):=by
 intro j s J H x L Q I r h;obtain ⟨p,bs,rfl,w,q⟩:=h;obtain ⟨u,rfl,y⟩:=Ec r;cases y;have z:X.A.in1.handled=none:=I.ok.hd t;obtain ⟨a,k,f,M⟩:=I.list w;have l:=k.length;rw [Ci] at l;have g:p<s.heap.objs.size:=by obtain ⟨_,e,_⟩:=f.isList;exact AY e
 have d:∀(i:Nat) (v:Value),a.toArray[i]?=some v→v=.bool (bs.getD i true):=fun i v e=>by
  have m:a[i]?=some v:=by simpa using e
  have c:i<a.length:=(qa1.mp m).1;have B:(bs.map V.bl)[i]?=some (V.bl (bs.getD i true)):=by rw [Cg,Bl (by omega)];simp [EG,Bl (show i<bs.length by omega)]
  obtain ⟨u,n,C⟩:=k.get B;rw [m] at n;cases n;exact C
 refine call_all_walk (wpAny_pyIter_list f.isList ?_);refine ⟨s.heap.objs.size,[s.heap.objs.size,p],[s.heap.objs.size],a.toArray.size,_,_,fun i=>bs.getD i true,rfl,Walks.list (A:=X.A.in1) z _ p (B0 g) a.toArray,⟨⟨_,Bx _ rfl,rfl,rfl⟩,f.isList.push _⟩,fun i v N O P e F=>?_,fun R S hk=>?_⟩
 ·rw [d i v e];exact Gh F
 ·have e:(List.range a.toArray.size).all (fun i=>bs.getD i true)=bs.all id:=by
   rw [Bh,←l];apply qb4.mpr;simp only [qaT,qb3,id];constructor
   ·intro h b G;obtain ⟨i,c,rfl⟩:=IH G;have:=h i c;simpa [EG,Bl c] using this
   ·intro h i c;have:=h bs[i] (J9 c);simpa [EG,Bl c] using this
  rw [e];exact ⟨.bl _,H,I.kept (O6 (fun b o e=>AW _ e) (AK _) hk),rfl,q⟩
def Jh:D→Option Bool
 |.bl b=>some b
 |_=>none
def DR:D→HD→Out D:=fun x h=>match x with
 |.loc l=>match h[l]? with
  |some (.lst d)=>match Bp (d.map Jh) with
   |some bs=>.ok (.bl (bs.all id)) h
   |none=>.stuck
  |_=>.stuck
 |_=>.stuck
def Vt:∀{b:List D} {a:List V} {bs:List Bool},DVs X.K m H b a→Bp (b.map Jh)=some bs→a=bs.map V.bl
 |[],a,n,r,e=>by simp only [DVs] at r;simp [Bp] at e;subst r e;rfl
 |d::b,a,n,r,e=>by
  simp only [DVs] at r;obtain ⟨v,w,rfl,f,c⟩:=r;rw [Bk] at e;cases d with
  |bl i=>simp only [Jh,Bp,qb6] at e;obtain ⟨g,h,rfl⟩:=e;simp only [DV] at f;subst f;rw [Vt c h];rfl
  |_=>simp [Jh,Bp] at e
def g9 (e:X.calm=true):C1 X (.builtin "all") (Ai DR):=by
 refine ⟨_,g8 e,fun m H h E o p Q b r q=>Fi r q fun d v f c q=>?_⟩;unfold DR at q;split at q
 ·rename_i l;split at q
  ·rename_i x g;split at q
   ·rename_i bs i;simp only [DV] at c;obtain ⟨a,rfl,j⟩:=c;obtain ⟨w,k,n⟩:=b.cells _ _ a g j;have:=Vt n i;subst this;exact ⟨a,bs,f,SqL.of k,Bb b q (by simp [DV])⟩
   ·exact q.elim
  ·exact q.elim
 ·exact q.elim
noncomputable def Ji:D→D→HD→Out D:=fun x y h=>match x with
 |.loc l=>match h[l]? with
  |some (.lst d)=>if d.length<sizeLine then .ok .non (h.set l (.lst (d++[y]))) else .stuck
  |_=>.stuck
 |_=>.stuck
def CI:D→HD→Out D:=fun x h=>match x with
 |.loc l=>match h[l]? with
  |some (.lst _)=>.ok x h
  |_=>.stuck
 |_=>.stuck
def DS (f g:ME):ME:=fun a h=>((f a h).bind CI).bind fun x b=>(g a b).bind fun y c=>Ji x y c
def hB {i c:Pos} (T:Ev X E o f) (U:Ev X E e g)
 (j:attributeBase o "append" X.env (eval o X.env)=eval o X.env:=by rfl)
 (r:((backTo c (starEach [e] X.env)).all (fun x=>!x.1)&&(backToKw c (keywordEach [] X.env)).all (fun x=>x.1.isSome)
  &&decide ([e].length+([]:List Keyword).length+(if ([]:List Keyword).isEmpty then 0 else 1)<30))=true:=by rfl)
 (k:(i.endLine==c.line)=true:=by rfl) (J:starEach [e] X.env=(false,eval e X.env)::starEach [] X.env:=by rfl) (b:(backTo c (starEach [] X.env)).any (·.1)=false:=by rfl):
 Ev X E (.Call (.Attribute o "append" i) [e] [] c) (DS f g):=
 BR (eQ PySem.F.plainAttrs_list PySem.F.slot_list_append PySem.F.type_list_append eU T (Ja U Kr J) j r k J b) fun σ H Q B=>by
  obtain ⟨m,C,h,W,L,p⟩:=B;refine ⟨m,C,h,W,L,?_⟩;unfold DS at p;rw [Out.bind_assoc] at p;refine wa.bind p fun x M v N Y F Z k1 s r1 n=>?_;clear F;unfold CI at n;split at n
  ·rename_i l;split at n
   ·rename_i ds el;simp only [Out.bind_ok] at n;have t:=r1;simp only [rD,DV] at t;obtain ⟨a,rfl,O⟩:=t;obtain ⟨ws,hv,dv⟩:=s.cells l _ a el O;refine ⟨.inl ⟨rfl,ws,SqL.of hv⟩,N,C,M,s,L.keep Z k1,?_⟩;have q2:wa X.K (rD X.K) N Y E Q ((Ac g Af C M).bind fun P R=>match P with
     |[y]=>Ji (.loc l) y R
     |_=>.stuck):=by
     unfold Ac Af;rw [Out.bind_assoc];exact n
    refine wa.bind q2 fun P R vs m2 H2 F p2 k2 u S q=>?_;clear F;split at q
    ·rename_i y;simp only [EO,DVs] at S;obtain ⟨yv,w,rfl,ry,rfl⟩:=S;unfold Ji at q;simp only at q;split at q
     ·rename_i ds2 G;split at q
      ·rename_i hz;have z:=Hj p2 O;obtain ⟨I,d,A⟩:=u.cells l _ a G z;refine ⟨a,I,yv,rfl,rfl,d,by rw [←A.len];exact hz,?_⟩;refine q .non m2 _ (AI _) (.set d rfl) (u.setCell z d rfl ⟨_,CA,?_⟩) (by simp [rD,DV]);exact (A.app (.cons ry .nil)).keep (AI _) (.set d rfl)
      ·exact q.elim
     ·exact q.elim
    ·exact q.elim
   ·exact n.elim
  ·exact n.elim
noncomputable def Ht:D→D→D→HD→Out (Fl×Ag)→Out (Fl×Ag):=fun o i v h k=>match o,i with
 |.loc l,.int n=>match h[l]? with
  |some (.lst d)=>match Dy d.length n with
   |some j=>match k with
    |.ok a _=>.ok a (h.set l (.lst (d.set j v)))
    |_=>.stuck
   |none=>.stuck
  |_=>.stuck
 |_,_=>.stuck
noncomputable def Hu (fo f c:ME):MS:=fun a h=>(c a h).bind fun v d=>(fo a d).bind fun o e=>(f a e).bind fun i b=>Ht o i v b (.ok (.nx,a) b)
def hG {o i e:Expr} {fo M N:ME} {pos b:Pos} (T:Ev X E o fo) (U:Ev X E i M) (W:Ev X E e N)
 (g:∀v,assign (.Subscript o i b) X.env v=(do
  let c ←holding [v] (eval o X.env)
  let k ←holding [v,c] (eval i X.env)
  standAt b
  holding [v,c,k] (setItem c k v)
  release [v,c,k] []):=by intro _;rfl)
 (Y:swapsWithSole [.Subscript o i b] e pos.line X.env=pure false:=by rfl) (Z:swappedStores [.Subscript o i b] e X.env=pure none:=by rfl)
 (s:(assignEach [.Subscript o i b] X.env).map (·.2)=[assign (.Subscript o i b) X.env]:=by rfl):Ex X E (.Assign [.Subscript o i b] e pos) (Hu fo M N):=
 DO (OD W (bK T U UP g) Y Z s) fun Dn σ H ⟨m,t,h,hr,r,p⟩=>⟨m,t,h,hr,r,wg.bind p fun v s vv m1 H1 u w x y r1 q1=>by
  refine ⟨m1,t,s,y,r.keep w x,wg.bind q1 fun c h2 vo m2 H2 z A B C r2 q2=>?_⟩;refine ⟨m2,t,h2,C,(r.keep w x).keep A B,wg.bind q2 fun k h3 vi O H3 F G I d r3 q=>?_⟩;clear u z F;unfold Ht at q;split at q
  ·rename_i l n;split at q
   ·rename_i ds el;split at q
    ·rename_i j ej;have P:=DV.keep G I r2;simp only [DV] at P;obtain ⟨a,rfl,g⟩:=P;have Q:=r3;simp only [rD,DV] at Q;subst Q;obtain ⟨R,f,S⟩:=d.cells l _ a el g;refine ⟨a,R,n,j,rfl,rfl,f,by rw [←S.len];exact ej,?_⟩;have J:=DV.keep G I (DV.keep A B r1);have L:HR X.K O (h3.set l (.lst (ds.set j v))) (Av H3 a (.lst (R.set j vv))):=d.setCell g f rfl ⟨_,CA,(S.set j J).keep (AI _) (.set f rfl)⟩;exact q O _ (AI _) (.set f rfl) L σ ((((r.keep w x).keep A B).keep G I).keep (AI _) (.set f rfl))
    ·exact q.elim
   ·exact q.elim
  ·exact q.elim⟩
end
noncomputable def Al (n:Nat) (g:MS):TF:=fun a h=>(g (a.map some++List.replicate (n - a.length) none) h).bind fun x b=>match x with
 |(.nx,_)=>.ok .non b
 |(.rt d,_)=>.ok d b
 |_=>.stuck
open AutoSeq1 (wpAny_loadPart')
section
variable {prog:Program} {w:World} {A:Around} {E:Value→Shared→Prop} {s:Shared}
def hH {i:Nat} {a:Array Value} {Q:Value→Shared→Prop} (h:s.heap.IsTupleIter b l i)
 (j:s.heap.IsTuple l a) (k:a[i]?=some x)
 (m:∀e,e.IsTupleIter b l (i+1)→Heap.SameBut b s.heap e→Q x {s with heap:=e}):
 wpAny (model prog w) A (Builtin.SmallTypes.nextOf (.ref b)) Q E s:=by
 obtain ⟨o,d,n,c⟩:=id h;obtain ⟨p,f,_,q,g⟩:=j;unfold Builtin.SmallTypes.nextOf;refine Aj (wpAny_callSpecial?_slot (name:=Str.ofString "__next__") h.typeIs F.slot_tuple_iterator_next
  (wpAny_call_entry F.slot_tuple_iterator_next h.typeIs F.entry_tuple_iterator_next ?_ (F.args_tuple_iterator_next_1 _)))
 show wpAny _ _ (field (.ref b) 0 >>=_) _ _ s
 refine Aj (wpAny_field d c (x:=.ref l) rfl ?_)
 show wpAny _ _ (if (Value.ref l==Value.none)=true then _ else _) _ _ s
 rw [if_neg (show ¬((Value.ref l==Value.none)=true) from BE)]
 show wpAny _ _ (field (.ref b) 1 >>=_) _ _ s
 refine Aj (wpAny_field d c (x:=.int i 0) rfl ?_)
 show wpAny _ _ (seqItems? (.ref l) >>=_) _ _ s
 refine Aj (wpAny_seqItems f g ?_);simp only [Ll,k];refine Aj (wpAny_setField d c (by simp) (AD ⟨x,rfl,AD (m _ ?_ (Heap.SameBut.update ..))⟩));exact ⟨_,Oa _ d (Obj.isFreed_of_fields (Obj.data_mapFields c _)),(Obj.cls_mapFields ..).trans n,by
  rw [Obj.data_mapFields c];simp [rawInt]⟩
def hI {i:Nat} {b:Array Value} (n:A.handled=none)
 (h:s.heap.IsTupleIter c l i) (p:s.heap.IsTuple l b) (q:b[i]?=none)
 (r:∀d e,Heap.ExtBut c s.heap d→(∃o,d.get? e=some o∧o.cls=.type "StopIteration")→E (.ref e) {s with heap:=d}):
 wpAny (model prog w) A (Builtin.SmallTypes.nextOf (.ref c)) Q E s:=by
 obtain ⟨o,f,t,g⟩:=id h;obtain ⟨u,j,_,v,k⟩:=p;unfold Builtin.SmallTypes.nextOf;refine Aj (wpAny_callSpecial?_slot (name:=Str.ofString "__next__") h.typeIs F.slot_tuple_iterator_next
  (wpAny_call_entry F.slot_tuple_iterator_next h.typeIs F.entry_tuple_iterator_next ?_ (F.args_tuple_iterator_next_1 _)))
 show wpAny _ _ (field (.ref c) 0 >>=_) _ _ s
 refine Aj (wpAny_field f g (x:=.ref l) rfl ?_)
 show wpAny _ _ (if (Value.ref l==Value.none)=true then _ else _) _ _ s
 rw [if_neg (show ¬((Value.ref l==Value.none)=true) from BE)]
 show wpAny _ _ (field (.ref c) 1 >>=_) _ _ s
 refine Aj (wpAny_field f g (x:=.int i 0) rfl ?_)
 show wpAny _ _ (seqItems? (.ref l) >>=_) _ _ s
 refine Aj (wpAny_seqItems j k ?_);simp only [Ll,q];refine Aj (wpAny_rule (Aj (wpAny_setField f g (by simp) ?_)))
 show wpAny _ _ (newExc (.type "StopIteration") [] >>=_) _ _ _
 refine Aj ?_;simp only [newExc,newTuple];refine Aj (EJ ?_ (by size_fits));refine Aj (m:=firstArgMember _ _) (wpAny_of_eq (a:=Value.none) (by first |rfl |(simp only [firstArgMember];rfl)) ?_);refine EJ ?_ (by size_fits);simp only [raiseNew];refine Aj (wpAny_handled ?_)
 first |rw [show A.in1.handled=none from n] |rw [n]
 refine Aj (AD (wpAny_throw ?_));exact r _ _ (((Heap.SameBut.update ..).extBut.push _).push _) ⟨_,Bx _ rfl,rfl⟩
end
def O8 {A:Around} (j:A.handled=none) (b l:Addr) (f:l≠b) (a:Array Value):
 Draws p w A b [b,l] a.size (fun i v=>a[i]?=some v) (fun i h=>h.IsTupleIter b l i∧h.IsTuple l a) where
 live:=fun _ _ st=>let ⟨o,k,_⟩:=st.1;⟨o,k⟩
 frame:=fun _ _ _ st hk=>⟨st.1.at fun o e=>hk b (by simp) o e,st.2.at fun o e=>hk l (by simp) o e⟩
 item:=fun i s Q E g st m=>by refine hH st.1 st.2 (x:=a[i]) (by simp [g]) fun n c d=>?_;exact m _ n s.toks (by simp [g]) ⟨c,st.2.extBut d.extBut f⟩ d
 done:=fun s Q E st q=>hI j st.1 st.2 (by simp) q
def hJ (l:Addr) (i:Array Value) (n:Nat) (b:Option Addr) (j:Array (Option Value)):
 Meets (Builtin.«enumerate.__new__» ⟨[.type "enumerate",.ref l],[]⟩) (fun _ R s=>s.heap.get? l=some {cls:=.type "tuple",dict:=b,data:=.seq i n,slots:=j}∧
  R (.ok (.ret (.ref (s.heap.push {cls:=.type "tuple_iterator",data:=.fields #[.ref l,.int 0 0]}).objs.size)))
    {s with heap:=(s.heap.push {cls:=.type "tuple_iterator",data:=.fields #[.ref l,.int 0 0]}).push {cls:=.type "enumerate",data:=.fields #[.none,.bool false,.ref s.heap.objs.size,rawInt 0,.none,.none]}}):=
 .of_wp fun p w A R s h=>by
  obtain ⟨k,g,d,t,os⟩:=s;obtain ⟨a,h⟩:=h;have f:=sub_enumerate;have e:Heap.IsTuple (Shared.heap ⟨k,g,d,t,os⟩) l i:=⟨_,a,rfl,n,rfl⟩
  wp_walk using wpAny_loadPart' a
  refine wpAny_stack_any fun st=>AD ?_;split
  ·rename_i c _ _ _ _ _;cases (c==Value.type "enumerate")
   ·wp_walk using wpAny_loadPart' a,wpAny_pyIter_tuple e
    exact ⟨_,rfl,h⟩
   ·wp_walk using wpAny_loadPart' a,wpAny_pyIter_tuple e
    exact ⟨_,rfl,h⟩
  ·wp_walk using wpAny_loadPart' a,wpAny_pyIter_tuple e
   exact ⟨_,rfl,h⟩
section
variable {prog:Program} {w:World} {A:Around} {E:Value→Shared→Prop} {s:Shared}
def hL {i:Array Value} {Q:Value→Shared→Prop} (k:s.heap.IsTuple l i)
 (h:∀a,IsEnum a (s.heap.objs.size+1) s.heap.objs.size 0 .none→a.IsTupleIter s.heap.objs.size l 0→a.objs.size=s.heap.objs.size+2→
  (∀b o,s.heap.get? b=some o→a.get? b=some o)→Q (.ref (s.heap.objs.size+1)) {s with heap:=a}):
 wpAny (model prog w) A (call (.type "enumerate") [.ref l]) Q E s:=by
 obtain ⟨⟨c,d,m,p⟩,q,e,n,f⟩:=k;replace e:c=.type "tuple":=e;replace f:m=.seq i n:=f;subst e f;refine callType_new F.called_enumerate (by decide) (F.typeCall_enumerate_1 _) (F.newCall_enumerate_1 _) (fun obj=>F.args_object_init_2 obj _) F.entry_enumerate_new
  (hJ l i n d p) ⟨q,?_⟩
 have g:(s.heap.push {cls:=.type "tuple_iterator",data:=.fields #[.ref l,.int 0 0]}).objs.size=s.heap.objs.size+1:=CQ ..
 show _∧_
 rw [g];have j:IsEnum ((s.heap.push {cls:=.type "tuple_iterator",data:=.fields #[.ref l,.int 0 0]}).push
  {cls:=.type "enumerate",data:=.fields #[.none,.bool false,.ref s.heap.objs.size,rawInt 0,.none,.none]}) (s.heap.objs.size+1) s.heap.objs.size 0 .none:=by
  have:=Bx (s.heap.push {cls:=.type "tuple_iterator",data:=.fields #[.ref l,.int 0 0]})
   (o:={cls:=.type "enumerate",data:=.fields #[.none,.bool false,.ref s.heap.objs.size,rawInt 0,.none,.none]}) rfl
  rw [g] at this;exact this
 refine ⟨⟨_,j,rfl⟩,h _ j ⟨_,AW _ (Bx _ rfl),rfl,rfl⟩ (by rw [CQ,g]) fun b o x=>AW _ (AW _ x)⟩
end
def Vu (K:Frag) (t:Addr) (a:List V):It:=⟨fun i H=>i<a.length∧SqT K H t a,fun i H x h=>∃p v,H p=none∧x=.ref p∧a[i]?=some v∧h=Av H p (.tup [.int i,v]),fun i H=>i=a.length∧SqT K H t a⟩
def hR {K:Frag} {kt:Nat} (e a t:Addr) (G:e≠a) (hte:t≠e) (N:t≠a) (O:List V):
 FP P w K (.Tuple L kt M) (Vu K t O) [e,a] e (fun i h=>(∃f,IsEnum h e a i f)∧h.IsTupleIter a t i) where
 mem:=by simp
 obj:=fun i h st b d=>by
  obtain ⟨⟨f,Z⟩,o,y,j,hd⟩:=st;rcases qa6.mp d with z |z
  ·subst z;exact ⟨_,Z,fun v z=>by cases z⟩
  ·rw [qaG] at z;subst z;exact ⟨o,y,fun v z=>by rw [hd] at z;cases z⟩
 keep:=fun i h h' st k=>by obtain ⟨⟨f,Z⟩,y⟩:=st;exact ⟨⟨f,k e (by simp) _ Z⟩,y.at fun o z=>k a (by simp) o z⟩
 item:=by
  intro X hP hw hK j i C s σ H E I R st hg;subst hP hw hK;obtain ⟨⟨f,J⟩,B⟩:=st;obtain ⟨hi,hq⟩:=hg;obtain ⟨g,rv,p,hz⟩:=I.tuple hq;have hT:s.heap.IsTuple t g.toArray:=p;have hl:=rv.length;obtain ⟨e0,e1,e2,e3,e4,e5⟩:=R e (by simp);obtain ⟨i0,i1,i2,i3,i4,i5⟩:=R a (by simp);have hx:O[i]?=some O[i]:=Bl hi;refine wpAny_pyNext_enum_itemD (O8 (A:=X.A.in1) (I.ok.hd j) a t N g.toArray) J ⟨B,hT⟩ (by rw [Bh];omega) G (by simp [G,Ne.symm hte]) fun x Z S hPx ho hs1 T hsz hk=>?_;obtain ⟨u,hu,ru⟩:=rv.get hx;have hux:u=x:=by
   have:g[i]?=some x:=by simpa using hPx
   rw [hu] at this;exact Option.some.inj this
  subst hux;refine ⟨.ref s.heap.objs.size,rfl,wpAny_letOwnedTupleGo_enum ho fun y he2 sb=>?_⟩;have l:H s.heap.objs.size=none:=I.hok.fresh (AK _);have U:∀b o,b∉[e,a]→s.heap.get? b=some o→y.get? b=some o:=fun b o d z=>by have n1:b≠e:=fun q=>d (by simp [q]);have n2:b≠a:=fun q=>d (by simp [q]);exact (sb.2 b n1).trans (hk b o n1 n2 z)
  have na:s.heap.objs.size≠e:=Jf (AY J);have F:y.get? s.heap.objs.size=some {cls:=.type "tuple",data:=.seq #[.int i S,u]}:=(sb.2 _ na).trans T;have W:∀b w,H b=some w→b∉[e,a]:=fun b w z d=>by
   rcases qa6.mp d with q |q
   ·rw [q,e0] at z;cases z
   ·rw [qaG.mp q,i0] at z;cases z
  have Y:∀b o,s.heap.get? b=some o→b≠s.heap.objs.size:=fun b o z=>B0 (AY z);have it2:y.IsTupleIter a t (i+1):=by obtain ⟨o,q,r⟩:=hs1.1;exact ⟨o,(sb.2 a (Ne.symm G)).trans q,r⟩
  refine ⟨.ref s.heap.objs.size,Av H s.heap.objs.size (.tup [.int i,O[i]]),?_,rfl,⟨s.heap.objs.size,O[i],l,rfl,hx,rfl⟩,⟨⟨u,he2⟩,it2⟩,fun b d=>?_⟩
  ·show Inv X C σ _ {s with heap:=y,gens:=s.gens,drawn:=s.drawn,toks:=S+1}
   refine I.step (g':=s.gens) (d':=s.drawn) (t':=S+1) (h':=y) (ch:=[e,a]) (fun b d=>?_) (fun b o _ _ j z _=>U b o j z) (fun b o _ _ j z _=>⟨o.slots,U b o j z⟩) (fun b o _ z n=>by rw [AJ (Y b o z)];exact n)
    (fun b o j z=>⟨o,U b o j z⟩) (fun b ys z=>by rw [AJ (BY z l)];exact z) (fun b o u z=>by rw [AJ (BY z l)];exact z) (fun b ps z=>⟨#[],by rw [AJ (BY z l),z];simp⟩) (fun m hm=>?_) (fun b w z=>?_) I.bare
   ·rcases qa6.mp d with q |q
    ·subst q;exact ⟨e3,e1,e4,e5⟩
    ·rw [qaG] at q;subst q;exact ⟨i3,i1,i4,i5⟩
   ·obtain ⟨o,es,ep,q,r⟩:=hm;exact ⟨o,es,ep,U _ o (by simp [Ne.symm e1,Ne.symm i1]) q,r⟩
   ·by_cases d:b=s.heap.objs.size
    ·subst d;rw [CA] at z;cases z;exact ⟨by simp only [Dc,Ka];rw [sizeLine_eq];decide,[.int i S,u],.cons ⟨S,rfl⟩ (.cons ru .nil),⟨_,F,rfl,0,rfl⟩,fun o e=>by rw [F] at e;cases e;rfl⟩
    ·rw [AJ d] at z;refine (I.hok b w z).stay (fun c v j q=>U c v ?_ q) (fun c q=>by rw [AJ (BY q l)];exact q) fun c ys q=>by rw [AJ (BY q l)];exact q
     rcases j with rfl |j
     ·exact W c _ z
     ·exact W c _ j
  ·have nb:b≠s.heap.objs.size:=by
    rcases qa6.mp d with q |q
    ·rw [q];exact na.symm
    ·rw [qaG.mp q];obtain ⟨o,z,_⟩:=B;exact Y _ _ z
   rw [AJ nb];exact (R b d).1
 done:=by
  intro X hP hw hK j i C s σ H E I R st hg;subst hP hw hK;obtain ⟨⟨f,J⟩,B⟩:=st;obtain ⟨hi,hq⟩:=hg;obtain ⟨g,rv,p,hz⟩:=I.tuple hq;have hT:s.heap.IsTuple t g.toArray:=p;have hl:=rv.length;obtain ⟨i0,i1,i2,i3,i4,i5⟩:=R a (by simp);have hin:i=g.toArray.size:=by rw [Bh];omega
  refine wpAny_pyNext_enum_endD (O8 (A:=X.A.in1) (I.ok.hd j) a t N g.toArray) J (hin ▸ ⟨B,hT⟩) fun h' eb=>⟨rfl,I.turned (t':=s.toks) (fun b o d z=>eb b o d z) i0 i1 i3 i4 i5⟩
 self:=fun A i s Q E st h=>by obtain ⟨⟨f,J⟩,_⟩:=st;exact wpAny_pyIter_enum J h
section
variable {X:Cx} {E:XK}
def Fp (a:List D):List D:=a.mapIdx fun i d=>.tup [.int (i:Nat),d]
end
section
variable {X:Cx} {E:XK} {e:Expr} {f:ME}
def hU:D→HD→Out D:=fun x h=>match x with
 |.tup [a,b]=>.ok (.tup [b,a]) h
 |_=>.stuck
end
structure CSc (X:Cx) (scope:Scope) (Nc:List Str) (cs:List (Option Nat)):Prop where
 kind:scope.kind=.function
 loc:(scope.names.all fun y=>y.2 != .local||scope.names.lookup y.1==some .local)=true
 free:(scope.names.all fun y=>y.2 != .free||(X.env.kindOf y.1==some .cell||X.env.kindOf y.1==some .free))=true
 nd:(scope.names.map (·.1)).Nodup
 len:cs.length=Nc.length
 out:((Nc.zip cs).all fun p=>match p.2 with
  |none=>true
  |some j=>X.N[j]?==some p.1&&scope.names.lookup p.1==some .free)=true
def CSc.ok {N:List Str} {c:List (Option Nat)} (S:CSc X scope N c):FV X scope N c:=by
 refine ⟨S.kind,fun y h e=>?_,fun y h e=>?_,S.nd,S.len,fun i x j a b=>?_⟩
 ·have:=qaT.mp S.loc y h;rw [e] at this;simpa using this
 ·have:=qaT.mp S.free y h;rw [e] at this;simpa using this
 ·have d:(N.zip c)[i]?=some (x,some j):=by rw [List.getElem?_zip_eq_some];exact ⟨a,b⟩
  have:=qaT.mp S.out (x,some j) (FM d);simpa using this
structure Dn (K:Frag) (mg:Str→Option Value) (x:Str) (ps:List Str) (st:Stmt) (f:Addr) (fd:FuncData):Prop where
 fn:Fun K x x st f fd
 bd:Binds K fd ps []
 mg:mg x=some (.ref f)
section
variable {X:Cx} {E:XK}
def hV {f:ME} (e:Ev X E a f):Ev X E (.UnaryOp .USub a pos) (fun b h=>(f b h).bind fun x d=>match x with
 |.int i=>.ok (.int (-i)) d
 |_=>.stuck):=
 BR (ck cx e) fun l H Q z=>by obtain ⟨m,b,h,g,j,p⟩:=z;exact (⟨m,b,h,g,j,wa.bind p fun x d v n o k s t c r q=>by
  clear k;split at q
  ·simp only [rD,DV] at r;subst r;exact ⟨_,rfl,Bb c q (by simp [DV])⟩
  ·exact q.elim⟩)
def DT (f:ME):ME:=fun a h=>(f a h).bind fun x b=>match x with
    |.int i=>.ok (.int (-i)) b
    |_=>.stuck
def Vv {i j:Nat} {x y:Str} {p py t:Pos} {k:Nat} (h:X.calm=true) (a:PG X (.Name x p) (CH i)) (b:PG X (.Name y py) (CH j)):PG X (.Tuple [.Name x p,.Name y py] k t) (Hi X.K 2 (DG (CH i) (DG (CH j) Gk))):=
 IV h (CZ a (CZ b Hh))
end
def CMl (i j:Int):Prop:=CMul i j∨(Builtin.Int.intBits i≤16777216∧Builtin.Int.intBits j≤16777216)
instance (i j:Int):Decidable (CMl i j):=by unfold CMl;infer_instance
def CMl.ok {i j:Int} (h:CMl i j):IntMulOk i j:=by
 rcases h with h |⟨a,b⟩
 ·exact h.ok
 ·unfold IntMulOk;intro z;simp only [CP,decide_eq_true_eq] at z;have:=z.2;unfold Builtin.Int.intTooBig at this;simp only [decide_eq_true_eq] at this;have c:(bitsLine:Int)=134217728:=by first |rfl |decide
  omega
variable {X:Cx}
def op_mul':OpR X (binaryOp .Mult) (rI CMl fun i j=>.int (i*j)):=LV fun _ _ _ _ _ _ _ h q=>mul_int q h.ok
noncomputable def DU:D→D→HD→Out D
 |.int i,.int j,h=>if CMl i j then .ok (.int (i*j)) h else .stuck
 |.loc l,.int k,h=>match h[l]? with
  |some (.lst x)=>if -(2^63)≤k∧k<2^63 then BG (List.replicate k.toNat x).flatten h else .stuck
  |_=>.stuck
 |_,_,_=>.stuck
def hW:BC X (binaryOp .Mult) DU:=by
 refine ⟨_,op_mul'.or eZ,fun m H h E x y v u Q c r b q=>?_⟩;unfold DU at q;split at q
 ·simp only [DV] at r b;subst r b;split at q
  ·rename_i d;exact .inl ⟨_,_,rfl,rfl,d,Bb c q (by simp [DV])⟩
  ·exact q.elim
 ·simp only [DV] at r b;obtain ⟨a,rfl,f⟩:=r;subst b;split at q
  ·rename_i k _ n e;split at q
   ·rename_i hk;obtain ⟨g,i,j⟩:=c.cells _ _ a e f;obtain ⟨z,l⟩:=Gu c (j.rep k.toNat) q;refine .inr ⟨a,k,g,rfl,rfl,i,hk.1,hk.2,?_,l⟩;rw [L7] at z;rw [Kc];exact z
   ·exact q.elim
  ·exact q.elim
 ·exact q.elim
end LS
namespace Att
open PySem PySem.W PySem.Calls PyProof.Rows
def hX {a:List Int} (h:WData.layable (.list (a.map WData.int))=true):∀n∈a,Builtin.Int.intBits n≤2^20:=by
 have d:WData.weight (.list (a.map WData.int))≤2^20:=(layableW_iff.mp h).2.2;have k:∀(a:List Int) (b:Nat),WData.weightAll (a.map WData.int)≤b→∀n∈a,Builtin.Int.intBits n≤b:=by
  intro a
  induction a with
  |nil=>intro b _ n c;cases c
  |cons m r i=>
   intro b f n c;have e:WData.weightAll ((m::r).map WData.int)=Builtin.Int.intBits m+1+WData.weightAll (r.map WData.int):=by simp only [Bk,WData.weightAll,WData.weight];rfl
   rw [e] at f;rcases qa6.mp c with z |z
   ·subst z;omega
   ·exact i b (by omega) n z
 exact k a _ (by simpa only [WData.weight] using d)
def attach_bits {l:OpenLaw} {n:Nat} {b:List Str} {X:(Str→Option Value)→Heap→Prop} {F:World→Heap→Prop} {d:DefRec} 
 (L:l.most=some n) (y:d.params.defaults=[])
 (call:∀(w:World) (c s:Shared) (t z:Str→Option Value) (g:Addr) (o:Obj) (A u e:Value) (a:Addr) (v:List Value) (i:List Int),(∀n∈i,Builtin.Int.intBits n≤2^20)→
  Ground q b [] X w c t z s.heap→F w s.heap→
  s.heap.get? g=some o→o.data=.func (docDef d.name d.params d.body d.scope A u e)→s.heap.CodeRec u d.name→t d.name=some (.ref g)→
  s.heap.get? a=some {cls:=.type "list",data:=.seq v.toArray}→IntsAre v i→i.length≤n→s.gens=#[]→
  codeAny (model l.prog w) callerA (.call (.ref g) ⟨[.ref a],[]⟩) (fun r x=>r=.ok (.ret (.bool true))∧OldK s.heap x.heap∧x.os=s.os∧AllBare x.gens) s):
 WalkO q b X F l.row.toRowW d [] (fun f v=>PySem.call f v):=by
 intro w c s t z G Y g o A u e M kV N O B H C P I J as j k Q E R;obtain rfl:M=.none:=Dflts.none H y;obtain rfl:kV=.none:=Dflts.noKw H;obtain ⟨a,v,i,rfl,rfl,m,h,p⟩:=fc L j E;have S:=hX (layableW_arg k _ AX);refine enter_call (codeAny_mono (call w c s t z g o A u e a v i S G Y N (fd_plain O) B C m h p P) fun r x T=>?_);obtain ⟨rfl,U,W,Z⟩:=T;exact ⟨.inl ⟨.bool true,.bool true,[],rfl,fun _=>rfl,.bool true,fe l _,fun _=>⟨List.Pairwise.nil,fun _ hm=>(nomatch hm)⟩⟩,U,W,Z⟩
end Att
namespace LS
open PySem PySem.Spec PyProof.Rows L2
def Wp {b:Type} (o:Out b) (Q:b→HD→Prop):Prop:=match o with
 |.ok a h=>Q a h
 |_=>False
section
variable {α β:Type} {o:Out α} {Q Q':α→HD→Prop}
@[simp] theorem AE (a:α) (h:HD):Wp (.ok a h) Q=Q a h:=rfl
@[simp] theorem tK:Wp .stuck Q=False:=rfl
def AN {a:Out α} (e:o=a) (h:Wp a Q):Wp o Q:=e ▸ h
def AL {k:α→HD→Out β} {Q:β→HD→Prop}:Wp (o.bind k) Q=Wp o fun a h=>Wp (k a h) Q:=by cases o<;>rfl
def Wp.mono (h:Wp o Q) (f:∀a h,Q a h→Q' a h):Wp o Q':=by
 cases o with
 |ok a b=>exact f _ _ h
 |_=>exact h.elim
def Wp.ex (h:Wp o Q):∃a b,o=.ok a b∧Q a b:=by
 cases o with
 |ok a b=>exact ⟨a,b,rfl,h⟩
 |_=>exact h.elim
end
def Sm (h a:HD):Prop:=∀(l:Nat) (c:Cell),h[l]?=some c→a[l]?=some c
def Sm.refl (h:HD):Sm h h:=fun _ _ e=>e
def Sm.trans (a:Sm h d) (b:Sm d f):Sm h f:=fun l c e=>b l c (a l c e)
def Sm.app (h t:HD):Sm h (h++t):=fun l c e=>by rw [EH (qa1.mp e).1];exact e
def Pu {b:Type} (o:Out b) (h:HD) (a:b):Prop:=Wp o fun x c=>x=a∧Sm h c
section
variable {α β:Type} {o:Out α} {h:HD} {a:α}
def Pu.wp {Q:α→HD→Prop} (p:Pu o h a) (k:∀b,Sm h b→Q a b):Wp o Q:=Wp.mono p fun x b z=>by obtain ⟨e,s⟩:=z;subst e;exact k b s
def Pu.ok:Pu (.ok a h) h a:=⟨rfl,.refl _⟩
def Pu.bind {k:α→HD→Out β} {b:β} (p:Pu o h a) (q:∀c,Sm h c→Pu (k a c) c b):Pu (o.bind k) h b:=by unfold Pu;rw [AL];exact p.wp fun c s=>Wp.mono (q c s) fun x f z=>by obtain ⟨e,d⟩:=z;exact (⟨e,s.trans d⟩)
def Pu.wB (p:Pu o h a):Pu (wB o) h a:=by obtain ⟨x,b,e,q⟩:=Wp.ex p;rw [e];exact q
def Pu.eq {b:α} (p:Pu o h a) (e:a=b):Pu o h b:=e ▸ p
end
def Vw (i j:Nat) (a:Ag) (d:List D) (h:HD):Out (Fl×Ag):=match d with
 |[x,y]=>.ok (.nx,(a.set i (some x)).set j (some y)) h
 |_=>.stuck
def Ml (o:Option Ag) (h:HD):Out (Fl×Ag):=match o with
 |some a=>.ok (.nx,a) h
 |none=>.stuck
def Mm (g:HD→Out D) (x:D) (h:HD):Out D:=match x with
 |.bl true=>g h
 |.bl false=>.ok (.bl false) h
 |_=>.stuck
def Vx (g:HD→Out D) (x:D) (h:HD):Out D:=match x with
 |.bl true=>.ok (.bl true) h
 |.bl false=>g h
 |_=>.stuck
def hY (x:D) (h:HD):Out D:=match x with
 |.bl b=>.ok (.bl (!b)) h
 |_=>.stuck
def Vy (x:D) (h:HD):Out D:=match x with
 |.int i=>.ok (.int (-i)) h
 |_=>.stuck
@[simp] theorem tL {i j:Nat} {a:Ag} {x y:D} {h:HD} {Q:Fl×Ag→HD→Prop}:Wp (Vw i j a [x,y] h) Q=Q (.nx,(a.set i (some x)).set j (some y)) h:=rfl
@[simp] theorem tN {a:Ag} {h:HD} {Q:Fl×Ag→HD→Prop}:Wp (Ml (some a) h) Q=Q (.nx,a) h:=rfl
@[simp] theorem tO {g:HD→Out D} {h:HD}:Mm g (.bl true) h=g h:=rfl
@[simp] theorem tP {g:HD→Out D} {h:HD}:Mm g (.bl false) h=.ok (.bl false) h:=rfl
@[simp] theorem tQ {g:HD→Out D} {h:HD}:Vx g (.bl true) h=.ok (.bl true) h:=rfl
@[simp] theorem tS {g:HD→Out D} {h:HD}:Vx g (.bl false) h=g h:=rfl
@[simp] theorem tT {b:Bool} {h:HD}:hY (.bl b) h=.ok (.bl (!b)) h:=rfl
@[simp] theorem tU {i:Int} {h:HD}:Vy (.int i) h=.ok (.int (-i)) h:=rfl
def Mn (g:MS) (Q:Fl×Ag→HD→Prop):Fl×Ag→HD→Prop
 |(.nx,a),h=>Wp (g a h) Q
 |y,h=>Q y h
def Dj (Q:D→HD→Prop):Fl×Ag→HD→Prop
 |(.nx,_),h=>Q .non h
 |(.rt d,_),h=>Q d h
 |_,_=>False
section
variable {ρ:Ag} {h:HD} {Q:Fl×Ag→HD→Prop} {QB:D→HD→Prop} {g g1 g2:MS} {f:ME} {t:MT}
@[simp] theorem Ae:Mn g Q (.nx,ρ) h=Wp (g ρ h) Q:=rfl
@[simp] theorem tV {d:D}:Mn g Q (.rt d,ρ) h=Q (.rt d,ρ) h:=rfl
@[simp] theorem tW:Dj QB (.nx,ρ) h=QB .non h:=rfl
@[simp] theorem tX {d:D}:Dj QB (.rt d,ρ) h=QB d h:=rfl
@[simp] theorem Ba:Wp (AM g1 g2 ρ h) Q=Wp (g1 ρ h) (Mn g2 Q):=by
  unfold AM;rw [AL]
  congr 1
  funext x c;obtain ⟨a,b⟩:=x;cases a<;>rfl
def An {n:Nat} {d:List D}:Wp (Al n g d h) QB=Wp (g (d.map some++List.replicate (n - d.length) none) h) (Dj QB):=by
 unfold Al;rw [AL]
 congr 1
 funext x c;obtain ⟨a,b⟩:=x;cases a<;>rfl
@[simp] theorem tY:Wp (AG ρ h) Q=Q (.nx,ρ) h:=rfl
@[simp] theorem O9:Wp (AU f ρ h) Q=Wp (f ρ h) fun _ a=>Q (.nx,ρ) a:=by unfold AU;rw [AL];rfl
@[simp] theorem Hv:Wp (Ak f ρ h) Q=Wp (f ρ h) fun d a=>Q (.rt d,ρ) a:=by unfold Ak;rw [AL];rfl
@[simp] theorem Cj {i:Nat}:Wp (Am i f ρ h) Q=Wp (f ρ h) fun d a=>Q (.nx,ρ.set i (some d)) a:=by unfold Am;rw [AL];rfl
@[simp] theorem tZ:Wp (AC t g1 g2 ρ h) Q=Wp (t ρ h) fun b a=>Wp (if b=true then g1 ρ a else g2 ρ a) Q:=by unfold AC;rw [AL]
@[simp] theorem t2 {i j:Nat} {a:MA}:Wp (Eh i j a ρ h) Q=Wp (a ρ h) fun d b=>Wp (Vw i j ρ d b) Q:=by unfold Eh;rw [AL];rfl
@[simp] theorem t4 {s:MG}:Wp (C3 s f ρ h) Q=Wp (f ρ h) fun d a=>Wp (Ml (s d ρ) a) Q:=by unfold C3;rw [AL];rfl
@[simp] theorem t5 {fo a b:ME}:Wp (Hu fo a b ρ h) Q=Wp (b ρ h) fun v d=>Wp (fo ρ d) fun o e=>Wp (a ρ e) fun i c=>Wp (Ht o i v c (.ok (.nx,ρ) c)) Q:=by unfold Hu;simp only [AL]
end
section
variable {ρ:Ag} {h:HD} {Q:D→HD→Prop} {QB:Bool→HD→Prop} {QA:List D→HD→Prop} {f g k:ME} {t u:MT} {fa:MA} {op op':D→D→HD→Out D} {F:TF}
@[simp] theorem Dk {d:D} {r:Ag}:Wp (Ad 0 (some d::r) h) Q=Q d h:=rfl
@[simp] theorem Ei {i:Nat} {x:Option D} {r:Ag}:Wp (Ad (i+1) (x::r) h) Q=Wp (Ad i r h) Q:=rfl
@[simp] theorem Jj {d:D}:Wp (mC d ρ h) Q=Q d h:=rfl
@[simp] theorem Fq:Wp (Aa op f g ρ h) Q=Wp (f ρ h) fun x a=>Wp (g ρ a) fun y b=>Wp (op x y b) Q:=by unfold Aa;simp only [AL]
@[simp] theorem CJ:Wp (Ab F fa ρ h) Q=Wp (fa ρ h) fun d a=>Wp (F d a) Q:=by unfold Ab;rw [AL]
@[simp] theorem B2:Wp (Af ρ h) QA=QA [] h:=rfl
@[simp] theorem BM:Wp (Ac f fa ρ h) QA=Wp (f ρ h) fun x a=>Wp (fa ρ a) fun xs b=>QA (x::xs) b:=by unfold Ac;simp only [AL];rfl
@[simp] theorem hZ:Wp (AR fa ρ h) Q=Wp (fa ρ h) fun x a=>Wp (if x.length≤sizeLine then .ok (.tup x) a else .stuck) Q:=by unfold AR;simp only [AL]
@[simp] theorem Kw:Wp (AO fa ρ h) Q=Wp (fa ρ h) fun xs a=>Wp (BG xs a) Q:=by unfold AO;simp only [AL]
@[simp] theorem Vz:Wp (Aq f ρ h) QB=Wp (f ρ h) fun x a=>Wp (I0 x a) QB:=by unfold Aq;rw [AL]
@[simp] theorem t6:Wp (B7 f ρ h) QB=Wp (f ρ h) fun x a=>Wp (Ef x a) QB:=by unfold B7;rw [AL]
@[simp] theorem t9:Wp (Cq t ρ h) QB=Wp (t ρ h) fun b a=>QB (!b) a:=by unfold Cq;rw [AL];rfl
@[simp] theorem ua:Wp (Gr t u ρ h) QB=Wp (t ρ h) fun b a=>Wp (if b=true then .ok true a else u ρ a) QB:=by unfold Gr;rw [AL]
@[simp] theorem ub:Wp (C0 f g ρ h) Q=Wp (f ρ h) fun x a=>Wp (Mm (g ρ) x a) Q:=by unfold C0;rw [AL];rfl
@[simp] theorem uc:Wp (DT f ρ h) Q=Wp (f ρ h) fun x a=>Wp (Vy x a) Q:=by unfold DT;rw [AL];rfl
@[simp] theorem ud:Wp (Dg t f g ρ h) Q=Wp (t ρ h) fun b a=>Wp (if b=true then f ρ a else g ρ a) Q:=by unfold Dg;rw [AL]
@[simp] theorem ue:Wp (Gs op op' f g k ρ h) Q=Wp (f ρ h) fun x a=>Wp (g ρ a) fun y b=>Wp (op x y b) fun z c=>Wp (Mm (fun h=>(k ρ h).bind fun w d=>op' y w d) z c) Q:=by unfold Gs;simp only [AL];rfl
@[simp] theorem uf:Wp (DS f g ρ h) Q=Wp (f ρ h) fun x a=>Wp (CI x a) fun x a=>Wp (g ρ a) fun y b=>Wp (Ji x y b) Q:=by unfold DS;simp only [AL]
@[simp] theorem ug:Wp (AH ρ h) QB=QB true h:=rfl
def A4 {xs:List D} (b:xs.length≤sizeLine) (q:∀l a,Sm h a→a[l]?=some (.lst xs)→l=h.length→a=h++[.lst xs]→Q (.loc l) a):Wp (BG xs h) Q:=by unfold BG;rw [if_pos b];exact q h.length _ (.app _ _) (by simp) rfl rfl
end
section
variable {ρ:Ag} {h:HD} {QI:(List D×Bj)→HD→Prop} {f:ME} {fa:MA}
@[simp] theorem GD:Wp (A3 f ρ h) QI=Wp (f ρ h) fun d a=>Wp (ES d a) QI:=by unfold A3;rw [AL]
@[simp] theorem uh:Wp (BZ fa ρ h) QI=Wp (fa ρ h) fun d a=>Wp (Fj d a) QI:=by unfold BZ;rw [AL]
@[simp] theorem ui:Wp (Fm fa ρ h) QI=Wp (fa ρ h) fun d a=>Wp (Je d a) QI:=by unfold Fm;rw [AL]
def Dl {n:Nat} (a:n≤1000):Fj [.int (n:Int)] h=.ok ((List.range n).map fun k=>D.int ((k:Nat):Int),[]) h:=by
 have:(-(2^62):Int)≤(n:Int)∧(n:Int)<2^62:=by omega
 unfold Fj;simp only;rw [if_pos this];simp [Gz]
end
def Pa {l:Type} {s:Bj} {r:MG} {t:MT} {f:ME} (p:l→D) (g:l→Bool) (e:l→D) (b:l→Ag):
 ∀(c:List l) (h:HD),(∀a,Sm h a→A7 s i a)→(∀x∈c,r (p x) d=some (b x))→(∀x∈c,∀a,Sm h a→Pu (t (b x) a) a (g x))→(∀x∈c,g x=true→∀a,Sm h a→Pu (f (b x) a) a (e x))→
  Pu (DQ s i r t f d (c.map p) h) h ((c.filter g).map e)
 |[],h,q,_,_,_=>by simp only [Hb,List.filter_nil,DQ];rw [if_pos (q h (.refl _))];exact .ok
 |x::c,h,q,v,w,z=>by
  simp only [Bk,DQ];rw [if_pos (q h (.refl _)),v x AX];simp only;refine Pu.bind (w x AX h (.refl _)).wB fun A u=>?_;have B:∀j,Sm h j→Pu (DQ s i r t f d (c.map p) j) j ((c.filter g).map e):=fun j m=>Pa p g e b c j (fun a n=>q a (m.trans n))
   (fun y o=>v y (A2 _ o)) (fun y o a n=>w y (A2 _ o) a (m.trans n)) (fun y o C a n=>z y (A2 _ o) C a (m.trans n))
  cases k:g x with
  |false=>rw [if_neg BE,N6 (by simp [k])];exact B A u
  |true=>rw [if_pos rfl,N7 k];refine Pu.bind (z x AX k A u).wB fun j m=>?_;exact Pu.bind (B j (u.trans m)) fun E _=>.ok
def B8 {a:Type} {xs:List a}:xs.filter (fun _=>true)=xs:=List.filter_eq_self.mpr fun _ _=>rfl
section
variable {α:Type} {cs:List (Option Nat)} {it:MI} {sg:MG} {t:MT} {f:ME} {ρ:Ag} {h:HD} {src:Bj} {xs:List α} {φ:α→D}
def CV {Q:D→HD→Prop} (g:α→Bool) (e:α→D) (b:α→Ag) (k:Wp (it ρ h) fun x a=>x=(xs.map φ,src)∧Sm h a∧∀c,Sm a c→A7 src (xs.map φ) c) (j:xs.length≤sizeLine)
 (m:∀x∈xs,sg (φ x) (Cs cs ρ)=some (b x)) (n:∀x∈xs,∀a,Sm h a→Pu (t (b x) a) a (g x)) (o:∀x∈xs,g x=true→∀a,Sm h a→Pu (f (b x) a) a (e x))
 (q:∀l a,Sm h a→a[l]?=some (.lst ((xs.filter g).map e))→Q (.loc l) a):Wp (Ax cs it sg t f ρ h) Q:=by
 unfold Ax;rw [AL];refine Wp.mono k fun x p z=>?_;obtain ⟨ex,s,r⟩:=z;subst ex;rw [if_pos (by simpa using j),AL];refine (Pa φ g e b xs p r m (fun x d a i=>n x d a (s.trans i)) (fun x d u a i=>o x d u a (s.trans i))).wp fun c v=>?_;refine A4 ?_ fun l w y A _ _=>q l w ((s.trans v).trans y) A;rw [Ci];exact BJ (J6 _ _) j
def Hw (g:α→Bool) (e:α→D) (b:α→Ag) (d:Wp (it ρ h) fun x a=>x=(xs.map φ,src)∧Sm h a∧∀c,Sm a c→A7 src (xs.map φ) c) (i:xs.length≤sizeLine)
 (j:∀x∈xs,sg (φ x) (Cs cs ρ)=some (b x)) (k:∀x∈xs,∀a,Sm h a→Pu (t (b x) a) a (g x)) (m:∀x∈xs,g x=true→∀a,Sm h a→Pu (f (b x) a) a (e x)):
 Pu (Ab (Ai Bi) (Ac (Ax cs it sg t f) Af) ρ h) h (.tup ((xs.filter g).map e)):=by
 unfold Pu;rw [CJ,BM];refine CV g e b d i j k m fun l a s n=>?_;rw [B2];simp only [Ai,Bi,n];exact ⟨rfl,s⟩
def h9 (e:α→D) (b:α→Ag) (g:Wp (it ρ h) fun x a=>x=(xs.map φ,src)∧Sm h a∧∀c,Sm a c→A7 src (xs.map φ) c) (i:xs.length≤sizeLine)
 (j:∀x∈xs,sg (φ x) (Cs cs ρ)=some (b x)) (k:∀x∈xs,∀a,Sm h a→Pu (f (b x) a) a (e x)):
 Pu (Ab (Ai Bi) (Ac (Ax cs it sg AH f) Af) ρ h) h (.tup (xs.map e)):=by
 have:=Hw (t:=AH) (f:=f) (fun _=>true) e b g i j (fun x d a s=>(.ok:Pu (.ok true a) a true)) (fun x d _ a s=>k x d a s);rw [B8] at this;exact this
def Hx {a b:Type} {f:a→Option b} {g:a→b}:∀{xs:List a},(∀x∈xs,f x=some (g x))→Bp (xs.map f)=some (xs.map g)
 |[],_=>rfl
 |x::xs,c=>by simp only [Bk,c x AX,Bp,Hx (fun y d=>c y (A2 _ d)),G8]
def ia (b:α→Bool) (c:α→Ag) (j:Wp (it ρ h) fun x a=>x=(xs.map φ,src)∧Sm h a∧∀d,Sm a d→A7 src (xs.map φ) d) (k:xs.length≤sizeLine)
 (m:∀x∈xs,sg (φ x) (Cs cs ρ)=some (c x)) (n:∀x∈xs,∀a,Sm h a→Pu (f (c x) a) a (.bl (b x))):
 Pu (Ab (Ai DR) (Ac (Ax cs it sg AH f) Af) ρ h) h (.bl (xs.all b)):=by
 unfold Pu;rw [CJ,BM];refine CV (fun _=>true) (fun x=>.bl (b x)) c j k m (fun x e a s=>(.ok:Pu (.ok true a) a true)) (fun x e _ a s=>n x e a s) fun l a s i=>?_;rw [B2];rw [B8] at i;simp only [Ai,DR,i,BQ];rw [Hx (f:=Jh∘fun x=>D.bl (b x)) (g:=b) (fun x _=>rfl)];refine ⟨?_,s⟩;simp [List.all_map]
end
def B3 (I:Ag→HD→Prop) (Q:Fl×Ag→HD→Prop):Fl×Ag→HD→Prop
 |(.nx,a),h=>I a h
 |(.ct,a),h=>I a h
 |(.bk,a),h=>Q (.nx,a) h
 |(.rt d,a),h=>Q (.rt d,a) h
def Pb {n:Type} {s:Bj} {o:MG} {f:MS} {Q:Fl×Ag→HD→Prop} (l:n→D) (I:List n→Ag→HD→Prop) (m:∀c a h,I c a h→A7 s b h)
 (step:∀x c a h,I (x::c) a h→∃g,o (l x) a=some g∧Wp (f g h) (B3 (I c) Q)) (done:∀a h,I [] a h→Q (.nx,a) h):∀(c:List n) (a:Ag) (h:HD),I c a h→Wp (Fo s b o f (c.map l) a h) Q
 |[],a,h,i=>by simp only [Hb,Fo];rw [if_pos (m _ _ _ i)];exact done a h i
 |x::c,a,h,i=>by
  simp only [Bk,Fo];rw [if_pos (m _ _ _ i)];obtain ⟨g,e,w⟩:=step x c a h i;rw [e];simp only;rw [AL];refine Wp.mono w fun y p k=>?_;obtain ⟨q,j⟩:=y;cases q with
  |nx=>exact Pb l I m step done c j p k
  |ct=>exact Pb l I m step done c j p k
  |bk=>exact k
  |rt d=>exact k
def CC {f:Type} {src:Bj} {g:MI} {s:MG} {b:MS} {Q:Fl×Ag→HD→Prop} {a:Ag} {h:HD} {xs:List f} (d:f→D) (I:List f→Ag→HD→Prop) (j:Wp (g a h) fun x k=>x=(xs.map d,src)∧I xs a k) (l:∀y a h,I y a h→A7 src (xs.map d) h)
 (step:∀x xs a h,I (x::xs) a h→∃c,s (d x) a=some c∧Wp (b c h) (B3 (I xs) Q)) (done:∀a h,I [] a h→Q (.nx,a) h):Wp (BK g s b a h) Q:=by
 unfold BK;rw [AL];refine Wp.mono j fun x m z=>?_;obtain ⟨e,i⟩:=z;subst e;exact Pb d I l step done xs a m i
def ib {b c:Type} {f:b→Option c} {d:List c}:∀{a:List b},Bp (a.map f)=some d→∀{g:b→Option c},(∀x∈a,∀y,f x=some y→g x=some y)→Bp (a.map g)=some d:=by
 intro a
 induction a generalizing d with
 |nil=>intro e g _;exact e
 |cons x a k=>
  intro e g j;simp only [Bk] at e ⊢;cases h:f x with
  |none=>rw [h] at e;simp [Bp] at e
  |some y=>
   rw [h] at e;rw [j x AX y h];simp only [Bp] at e ⊢;cases i:Bp (a.map f) with
   |none=>rw [i] at e;cases e
   |some m=>rw [i] at e;rw [k i (fun z l=>j z (A2 _ l))];exact e
def Kx:∀{n:Nat} {d:D} {p:PyData},Be [] n d=some p→Be h n d=some p
 |n,.non,p,e=>by simpa [Be] using e
 |n,.bl _,p,e=>by simpa [Be] using e
 |n,.int _,p,e=>by simpa [Be] using e
 |n,.str _,p,e=>by simpa [Be] using e
 |n+1,.tup b,p,e=>by
  simp only [Be] at e ⊢;cases a:Bp (b.map (Be [] n)) with
  |none=>rw [a] at e;cases e
  |some z=>rw [a] at e;rw [ib a (fun x _ y c=>Kx c)];exact e
 |0,.tup b,p,e=>by simp [Be] at e
 |n+1,.loc l,p,e=>by simp [Be] at e
 |0,.loc l,p,e=>by simp [Be] at e
 |n,.scr _,p,e=>by cases n<;>simp [Be] at e
 |n,.adr _,p,e=>by cases n<;>simp [Be] at e
 |n,.ty _,p,e=>by cases n<;>simp [Be] at e
 |n,.exc _ _,p,e=>by cases n<;>simp [Be] at e
 |n,.edic,p,e=>by cases n<;>simp [Be] at e
 |n,.glo _,p,e=>by cases n<;>simp [Be] at e
 |n,.clo _ _ _,p,e=>by cases n<;>simp [Be] at e
def Py (d:D) (p:PyData):Prop:=Be [] 8 d=some p∧SeqAt.shaped p=true
def VA {p q:PyData} (a:Py x p) (b:Py y q):Hr x y h=.ok (.bl (PyData.eqv p q)) h:=by simp only [Hr,Gw,Kx a.1,Kx b.1];rw [if_pos ⟨a.2,b.2⟩]
def ic {p q:PyData} (a:Py x p) (b:Py y q):Fg x y h=.ok (.bl (!PyData.eqv p q)) h:=by simp only [Fg,Gw,Kx a.1,Kx b.1];rw [if_pos ⟨a.2,b.2⟩]
@[simp] theorem uj:(1≤sizeLine)=True:=eq_true (by unfold sizeLine;omega)
@[simp] theorem uk:(2≤sizeLine)=True:=eq_true (by unfold sizeLine;omega)
@[simp] theorem Ky:(3≤sizeLine)=True:=eq_true (by unfold sizeLine;omega)
@[simp] theorem um:(4≤sizeLine)=True:=eq_true (by unfold sizeLine;omega)
@[simp] theorem uo:(5≤sizeLine)=True:=eq_true (by unfold sizeLine;omega)
section
variable {h:HD} {a b c:D} {ds es:List D} {i j:Int} {F1:D→HD→Out D} {F2:D→D→HD→Out D} {F3:D→D→D→HD→Out D}
@[simp] theorem Kz:Ai F1 [a] h=F1 a h:=rfl
@[simp] theorem ie:Bo F2 [a,b] h=F2 a b h:=rfl
@[simp] theorem uq:fW F3 [a,b,c] h=F3 a b c h:=rfl
@[simp] theorem ur {b:Bool}:I0 (.bl b) h=.ok b h:=rfl
@[simp] theorem uu {b:Bool}:Ef (.bl b) h=.ok b h:=rfl
@[simp] theorem uv:Ef .non h=.ok false h:=rfl
@[simp] theorem uw:Ef (.int i) h=.ok (i != 0) h:=rfl
@[simp] theorem ux:Ef (.tup ds) h=.ok (!ds.isEmpty) h:=rfl
@[simp] theorem uA:B1 (.int i) (.ty "int") h=.ok (.bl true) h:=rfl
@[simp] theorem uB:B1 (.int i) (.ty "bool") h=.ok (.bl false) h:=rfl
@[simp] theorem uC:B1 (.int i) (.ty "tuple") h=.ok (.bl false) h:=rfl
@[simp] theorem uD:B1 (.tup ds) (.ty "tuple") h=.ok (.bl true) h:=rfl
@[simp] theorem uE:B1 (.tup ds) (.ty "int") h=.ok (.bl false) h:=rfl
@[simp] theorem ih:Ao (.int i) (.int j) h=.ok (.int (i+j)) h:=rfl
@[simp] theorem Pc {f:Int→Int→D}:FQ f (.int i) (.int j) h=.ok (f i j) h:=rfl
@[simp] theorem uF {b c:Bool}:Hq (.bl b) (.bl c) h=.ok (.bl (b==c)) h:=rfl
@[simp] theorem uG {b c:Bool}:Eg (.bl b) (.bl c) h=.ok (.bl (!(b==c))) h:=rfl
@[simp] theorem uH:Au (.tup ds) h=.ok (.int ds.length) h:=rfl
@[simp] theorem uI {n:List Int}:Au (.scr n) h=.ok (.int n.length) h:=by simp [Au,BB]
@[simp] theorem ij:ES (.tup ds) h=.ok (ds,[]) h:=rfl
@[simp] theorem uJ:Bi (.tup ds) h=.ok (.tup ds) h:=rfl
@[simp] theorem uK:hU (.tup [a,b]) h=.ok (.tup [b,a]) h:=rfl
@[simp] theorem uL:Kv (.int i) (.int j) h=.ok (.int (if j>i then j else i)) h:=rfl
@[simp] theorem ik:FR (.int i) (.int j) h=.ok (.int (if j<i then j else i)) h:=rfl
@[simp] theorem il {b:Bool}:FS (.bl b) h=.ok (.int (if b then 1 else 0)) h:=rfl
@[simp] theorem uM:FS (.int i) h=.ok (.int i) h:=rfl
@[simp] theorem uN {d:Ag} {k:Nat}:AB k a d=some (d.set k (some a)):=rfl
@[simp] theorem uO {d:Ag} {k l:Nat}:Bs k l (.tup [a,b]) d=some ((d.set k (some a)).set l (some b)):=rfl
@[simp] theorem uP {b c:Bool}:Hr (.bl b) (.bl c) h=.ok (.bl (b==c)) h:=rfl
@[simp] theorem uQ {b c:Bool}:Fg (.bl b) (.bl c) h=.ok (.bl (!(b==c))) h:=rfl
@[simp] theorem uR:Hr (.int i) (.int j) h=.ok (.bl (i==j)) h:=rfl
@[simp] theorem uS:Fg (.int i) (.int j) h=.ok (.bl (!(i==j))) h:=rfl
def Hz {l:Nat} (e:h[l]?=some (.lst ds)):Bi (.loc l) h=.ok (.tup ds) h:=by simp only [Bi,e]
def Ej {l:Nat} (e:h[l]?=some (.lst ds)):CI (.loc l) h=.ok (.loc l) h:=by simp only [CI,e]
def GE {l:Nat} (e:h[l]?=some (.lst ds)) (d:ds.length<sizeLine):Ji (.loc l) a h=.ok .non (h.set l (.lst (ds++[a]))):=by simp only [Ji,e];rw [if_pos d]
def ix_tup {k:Nat} (e:ds[k]?=some a):Ah (.tup ds) (.int (k:Nat)) h=.ok a h:=by
 have hk:k<ds.length:=(qa1.mp e).1;have d:Cu ds ((k:Nat):Int)=some a:=by unfold Cu Dy;rw [if_pos (by omega),if_pos (by omega)];simpa using e
 simp only [Ah,BB,d]
def GF {n k:Nat} {e:Nat→D} (hk:k<n):Ah (.tup ((List.range n).map e)) (.int (k:Nat)) h=.ok (e k) h:=ix_tup (by simp [D8,hk])
def Jk {n:Nat} {e:Nat→D} (hk:0<n):Ah (.tup ((List.range n).map e)) (.int 0) h=.ok (e 0) h:=GF (k:=0) hk
@[simp] theorem uT:Ah (.tup [a,b]) (.int 0) h=.ok a h:=rfl
@[simp] theorem uU:Ah (.tup [a,b]) (.int 1) h=.ok b h:=rfl
def ip {n:List Int} {k:Nat} (e:n[k]?=some i):Ah (.scr n) (.int (k:Nat)) h=.ok (.int i) h:=by
 have hk:k<n.length:=(qa1.mp e).1;have d:Cu (n.map D.int) ((k:Nat):Int)=some (.int i):=by unfold Cu Dy;rw [if_pos (by omega),if_pos (by simpa using hk)];simp [e]
 simp only [Ah,BB,d]
def B4 {l k:Nat} (d:h[l]?=some (.lst ds)) (e:ds[k]?=some a):Ah (.loc l) (.int (k:Nat)) h=.ok a h:=by
 have hk:k<ds.length:=(qa1.mp e).1;have f:Cu ds ((k:Nat):Int)=some a:=by unfold Cu Dy;rw [if_pos (by omega),if_pos (by omega)];simpa using e
 simp only [Ah,BB,d,f]
def Mo {l k:Nat} (e:h[l]?=some (.lst ds)) (hk:k<ds.length):Ht (.loc l) (.int (k:Nat)) a h (.ok (.nx,d) h)=.ok (.nx,d) (h.set l (.lst (ds.set k a))):=by
 have:Dy ds.length ((k:Nat):Int)=some k:=by unfold Dy;rw [if_pos (by omega),if_pos (by omega)];simp
 simp only [Ht,e,this]
def iq {n:Bool} {k:Nat} {d:List Nat}:Fh n (.int (k:Nat)) (.tup (d.map fun i=>.int ((i:Nat):Int))) h=.ok (.bl (if n then !d.contains k else d.contains k)) h:=by
 have e:Bp ((d.map fun i=>D.int ((i:Nat):Int)).map C2)=some (d.map fun i=>V.int ((i:Nat):Int)):=by rw [BQ];exact Hx (f:=C2∘fun i=>D.int ((i:Nat):Int)) (fun x _=>rfl)
 have g:IW (V.int ((k:Nat):Int)) (d.map fun i=>V.int ((i:Nat):Int))=d.contains k:=by
  unfold IW;rw [List.any_map,List.contains_eq_any_beq]
  congr 1
  funext i;change (((i:Nat):Int)==((k:Nat):Int))=_;rw [qb4];simp;omega
 simp only [Fh,BB,e,C2,g]
end
def Jl (c:List (Option Nat)) (i:MI) (s:MG) (t:MT) (f:ME):ME:=Ab (Ai Bi) (Ac (Ax c i s t f) Af)
def VB (c:List (Option Nat)) (i:MI) (s:MG) (t:MT) (f:ME):ME:=Ab (Ai DR) (Ac (Ax c i s t f) Af)
section
variable {α:Type} {cs:List (Option Nat)} {it:MI} {sg:MG} {t:MT} {f:ME} {ρ:Ag} {h:HD} {src:Bj} {xs:List α} {φ:α→D}
@[simp] theorem ir:Ab (Ai Bi) (Ac (Ax cs it sg t f) Af) ρ h=Jl cs it sg t f ρ h:=rfl
@[simp] theorem iu:Ab (Ai DR) (Ac (Ax cs it sg t f) Af) ρ h=VB cs it sg t f ρ h:=rfl
def Bq (o:Out (List D×Bj)) (h:HD) (d:List D) (src:Bj):Prop:=Wp o fun x a=>x=(d,src)∧Sm h a∧∀b,Sm a b→A7 src d b
def iv (g:α→Bool) (e:α→D) (a:α→Ag) (c:Bq (it ρ h) h (xs.map φ) src) (d:∀x∈xs,sg (φ x) (Cs cs ρ)=some (a x)) (i:∀x∈xs,∀b,Sm h b→Pu (t (a x) b) b (g x)) (j:∀x∈xs,g x=true→∀b,Sm h b→Pu (f (a x) b) b (e x)) (k:xs.length≤sizeLine):
 Pu (Jl cs it sg t f ρ h) h (.tup ((xs.filter g).map e)):=Hw g e a c k d i j
def Ek (e:α→D) (a:α→Ag) (c:Bq (it ρ h) h (xs.map φ) src) (d:∀x∈xs,sg (φ x) (Cs cs ρ)=some (a x)) (g:∀x∈xs,∀b,Sm h b→Pu (f (a x) b) b (e x)) (i:xs.length≤sizeLine):
 Pu (Jl cs it sg AH f ρ h) h (.tup (xs.map e)):=h9 e a c i d g
def Mp (b:α→Bool) (a:α→Ag) (d:Bq (it ρ h) h (xs.map φ) src) (e:∀x∈xs,sg (φ x) (Cs cs ρ)=some (a x)) (g:∀x∈xs,∀c,Sm h c→Pu (f (a x) c) c (.bl (b x))) (i:xs.length≤sizeLine):
 Pu (VB cs it sg AH f ρ h) h (.bl (xs.all b)):=ia b a d i e g
def GG:Bq (A3 (Ad 0) (some (.tup d)::ρ) h) h d []:=by simp [Bq,Sm.refl,A7]
end
def Pd {a:Type} {b:List a} {n:a→Int}:BS (.tup (b.map fun x=>.int (n x))) h=.ok (.int (b.map n).sum) h:=by simp only [BS,BB,BQ];rw [Hx (f:=GC∘fun x=>D.int (n x)) (g:=n) (fun x _=>rfl)]
section
variable {h:HD} {i j:Int}
def Jm (a:-18446744073709551616<j) (b:j<18446744073709551616):DU (.int i) (.int j) h=.ok (.int (i*j)) h:=by have:CMl i j:=.inl (.inr ⟨by omega,by omega⟩);simp only [DU];rw [if_pos this]
def Jn (a:-18446744073709551616<i) (b:i<18446744073709551616):DU (.int i) (.int j) h=.ok (.int (i*j)) h:=by have:CMl i j:=.inl (.inl ⟨by omega,by omega⟩);simp only [DU];rw [if_pos this]
def iw (a:Builtin.Int.intBits i≤16777216) (b:Builtin.Int.intBits j≤16777216):DU (.int i) (.int j) h=.ok (.int (i*j)) h:=by have:CMl i j:=.inr ⟨a,b⟩;simp only [DU];rw [if_pos this]
def FW (a:0<j):DA (.int i) (.int j) h=.ok (.int (i % j)) h:=by simp only [DA,intD];rw [if_pos a]
def KA (a:0<j) (b:j<18446744073709551616):Gx (.int i) (.int j) h=.ok (.int (i / j)) h:=by
 have:CDv i j:=⟨a,b⟩
 simp only [Gx,intD];rw [if_pos this]
def ix (a:0<j) (b:j<18446744073709551616):Ku (.int i) (.int j) h=.ok (.tup [.int (i / j),.int (i % j)]) h:=by
 have:CDv i j:=⟨a,b⟩
 simp only [Ku];rw [if_pos this]
end
def VC {a:Type} {o:Out a} {Q:a→HD→Prop}:Wp (wB o) Q=Wp o Q:=by cases o<;>rfl
def Pe {src:Bj} {sg:MG} {t:MT} {f:ME} (n:Nat→D) (I:HD→Prop) (T:Nat→Bool→Prop) (R:Nat→D→Prop) (d:Nat→Ag) (o:∀h,I h→A7 src items h):
 ∀(c:List Nat) (h:HD),c.Nodup→I h→(∀x∈c,sg (n x) ρc=some (d x))→(∀x∈c,∀h,I h→Wp (t (d x) h) fun b m=>T x b∧if b=true then Wp (f (d x) m) (fun y k=>I k∧R x y) else I m)→
  Wp (DQ src items sg t f ρc (c.map n) h) fun p r=>I r∧∃(g:Nat→Bool) (e:Nat→D),p=(c.filter g).map e∧(∀x∈c,g x=true→R x (e x))∧∀x∈c,T x (g x)
 |[],h,_,i,_,_=>by simp only [Hb,DQ];rw [if_pos (o h i)];exact ⟨i,fun _=>true,fun _=>.non,rfl,by simp,by simp⟩
 |x::c,h,l,i,F,G=>by
  simp only [Bk,DQ];rw [if_pos (o h i),F x AX];simp only;rw [AL,VC];rw [qbH] at l;refine Wp.mono (G x AX h i) fun b m s=>?_;obtain ⟨H,w⟩:=s;have J:∀k,I k→_:=fun k u=>Pe n I T R d o c k l.2 u (fun y j=>F y (A2 _ j)) (fun y j=>G y (A2 _ j));cases b with
  |false=>
   rw [if_neg BE] at w ⊢;refine Wp.mono (J m w) ?_;rintro p r ⟨v,g,e,A,B,C⟩;refine ⟨v,fun y=>if y=x then false else g y,e,?_,?_,?_⟩
   ·rw [N6 (by simp),A]
    congr 1
    refine List.filter_congr fun y j=>?_;rw [if_neg];intro z;subst z;exact l.1 j
   ·intro y j L;rcases qa6.mp j with z |z
    ·subst z;simp at L
    ·refine B y z ?_
     by_cases a:y=x
     ·subst a;exact absurd z l.1
     ·simpa [a] using L
   ·intro y j
    by_cases a:y=x
    ·subst a;simpa using H
    ·simp only [if_neg a];exact C y (by rcases qa6.mp j with z |z;exact absurd z a;exact z)
  |true=>
   rw [if_pos rfl] at w ⊢;rw [AL,VC];refine Wp.mono w fun y k E=>?_;obtain ⟨u,N⟩:=E;rw [AL];refine Wp.mono (J k u) ?_;rintro p r ⟨v,g,e,A,B,C⟩;refine ⟨v,fun z=>if z=x then true else g z,fun z=>if z=x then y else e z,?_,?_,?_⟩
   ·rw [N7 (by simp),Bk,if_pos rfl,A]
    congr 1
    rw [show c.filter (fun z=>if z=x then true else g z)=c.filter g from List.filter_congr fun z a=>by rw [if_neg];intro q;subst q;exact l.1 a]
    refine Cf fun z a=>?_;rw [if_neg];intro q;subst q;exact l.1 (qbQ.mp a).1
   ·intro z a M
    by_cases q:z=x
    ·subst q;simpa using N
    ·rcases qa6.mp a with w |w
     ·exact absurd w q
     ·simp only [if_neg q] at M ⊢;exact B z w M
   ·intro z a
    by_cases q:z=x
    ·subst q;simpa using H
    ·simp only [if_neg q];exact C z (by rcases qa6.mp a with w |w;exact absurd w q;exact w)
def VD {o:List (Option Nat)} {p:MI} {s:MG} {t:MT} {f:ME} {h:HD} {src:Bj} {xs:List Nat} {Q:D→HD→Prop} (i:Nat→D) (I:HD→Prop) (T:Nat→Bool→Prop) (R:Nat→D→Prop) (a:Nat→Ag) (v:Wp (p m h) fun x j=>x=(xs.map i,src)∧I j) (w:∀h,I h→A7 src (xs.map i) h)
 (d:∀h c,I h→I (h++[c])) (A:xs.Nodup) (r:xs.length≤sizeLine) (B:∀x∈xs,s (i x) (Cs o m)=some (a x)) (C:∀x∈xs,∀h,I h→Wp (t (a x) h) fun b k=>T x b∧if b=true then Wp (f (a x) k) (fun y u=>I u∧R x y) else I k)
 (q:∀j (g:Nat→Bool) (e:Nat→D),I j→(∀x∈xs,g x=true→R x (e x))→(∀x∈xs,T x (g x))→Q (.tup ((xs.filter g).map e)) j):Wp (Jl o p s t f m h) Q:=by
 unfold Jl;rw [CJ,BM];unfold Ax;rw [AL];refine Wp.mono v fun x k z=>?_;obtain ⟨ex,E⟩:=z;subst ex;rw [if_pos (by simpa using r),AL];refine Wp.mono (Pe i I T R a w xs k A E B C) fun O u n=>?_;obtain ⟨F,g,e,G,H,J⟩:=n;subst G;refine A4 ?_ fun l L P M _ N=>?_
 ·rw [Ci];exact BJ (J6 _ _) r
 ·rw [B2];simp only [Ai,Bi,M];refine q L g e ?_ H J;rw [N];exact d _ _ F
def VE {b:Type} {g:b→PyData}:∀{a:List b},(∀x∈a,(g x).canLay0=true)→PyData.canLayAll0 (a.map g)=true
 |[],_=>rfl
 |x::a,h=>by rw [Bk,PyData.canLayAll0,h x AX,VE fun y c=>h y (A2 _ c)];rfl
def VF {b:Type} {g:b→PyData} {n:Nat}:∀{a:List b},(∀x∈a,(g x).depth≤n)→PyData.depthAll (a.map g)≤n
 |[],_=>EI _
 |x::a,h=>by rw [Bk,PyData.depthAll];exact Nat.max_le.mpr ⟨h x AX,VF fun y c=>h y (A2 _ c)⟩
structure PyN (n:Nat) (d:D) (p:PyData):Prop where
 rd:∀k,n≤k→Be [] k d=some p
 ly:p.canLay0=true
 dp:p.depth≤n
def PyN.py {n:Nat} {p:PyData} (h:PyN n d p) (a:n≤8):Py d p:=⟨h.rd 8 a,by
 unfold SeqAt.shaped;rw [h.ly];have:=h.dp;simp
 omega⟩
def pyn_int {i:Int}:PyN 0 (.int i) (.int i):=⟨fun k _=>by cases k<;>rfl,rfl,AK _⟩
def Mq {a:Type} {n:Nat} {b:List a} {e:a→D} {g:a→PyData} (c:∀x∈b,PyN n (e x) (g x)):PyN (n+1) (.tup (b.map e)) (.tuple (b.map g)):=by
 refine ⟨fun k hk=>?_,?_,?_⟩
 ·obtain ⟨k,rfl⟩:∃m,k=m+1:=⟨k - 1,by omega⟩
  simp only [Be,BQ];rw [Hx (f:=Be [] k∘e) (g:=g) (fun x h=>(c x h).rd k (by omega))];rfl
 ·rw [PyData.canLay0];exact VE fun x h=>(c x h).ly
 ·rw [PyData.depth];exact Nat.succ_le_succ (VF fun x h=>(c x h).dp)
def KD {b:Type}:Sem b→Prop
 |.pure _=>True
 |.raise _=>True
 |.unsupported _=>True
 |.finish _=>True
 |.rule _ k=>KD (k ())
 |.at _ k=>KD (k ())
 |.load _ _ k=>∀o,KD (k o)
 |.update _ _ f k=>(∀o,(f o).dict=o.dict∧(o.isFreed=false→(f o).isFreed=false))∧KD (k ())
 |.loadIfAlive _ k=>∀o,KD (k o)
 |.point _ k=>KD (k ())
 |.register _ _=>True
 |.alloc _ k=>∀a,KD (k a)
 |.fresh k=>∀a,KD (k a)
 |.ask k=>∀a,KD (k a)
 |.choose _ _ k=>∀a,KD (k a)
 |.os _ _ k=>∀a,KD (k a)
 |.call ..=>False
 |.handled _ k=>∀a,KD (k a)
 |.genState _ k=>∀a,KD (k a)
 |.newGen _ k=>∀a,KD (k a)
 |.resume ..=>False
 |.yield ..=>True
 |.stack k=>∀a,KD (k a)
 |.fork ..=>True
 |.thread k=>∀a,KD (k a)
 |.await ..=>True
def wy (h c:Heap):Prop:=∀b o,h.get? b=some o→∃a,c.get? b=some a∧a.dict=o.dict
def wy.refl (h:Heap):wy h h:=fun _ o e=>⟨o,e,rfl⟩
def wy.trans (a:wy h d) (b:wy d f):wy h f:=fun c o e=>by obtain ⟨g,i,j⟩:=a c o e;obtain ⟨k,l,m⟩:=b c g i;exact ⟨k,l,m.trans j⟩
def iy {C:Type} {y:PySem.Ctx} {Q:C→Pos→Shared→Prop} {E:Value→Pos→Shared→Prop}:∀(t:Sem C) (p:Pos) (s:Shared),KD t→Sem.wp M y t Q E p s→Sem.wp M y t (fun a p m=>Q a p m∧wy s.heap m.heap) (fun a p m=>E a p m∧wy s.heap m.heap) p s:=by
 have u:∀(t:Sem C) (p:Pos) (B:Heap) (s:Shared),wy B s.heap→Sem.wp M y t (fun a p m=>Q a p m∧wy s.heap m.heap) (fun a p m=>E a p m∧wy s.heap m.heap) p s→Sem.wp M y t (fun a p m=>Q a p m∧wy B m.heap) (fun a p m=>E a p m∧wy B m.heap) p s:=
  fun t p B s d w=>Sem.wp_mono M y t (fun a p m z=>⟨z.1,d.trans z.2⟩) (fun a p m z=>⟨z.1,d.trans z.2⟩) p s w
 intro t
 induction t with
 |pure a=>exact fun p s _ w=>⟨w,.refl _⟩
 |raise e=>exact fun p s _ w=>⟨w,.refl _⟩
 |unsupported w=>exact fun p s _ w=>w.elim
 |finish w=>exact fun p s _ w=>w.elim
 |rule t k j=>exact fun p s i w=>j () p s i w
 |«at» t k j=>exact fun p s i w=>j () t s i w
 |load a x k j=>exact fun p s i ⟨o,e,w⟩=>⟨o,e,j o p s (i o) w⟩
 |update a x f k j=>
  refine fun p s i ⟨e,w⟩=>⟨e,u _ p s.heap {s with heap:=s.heap.update a f} (fun b o A=>?_) (j () p _ i.2 w)⟩
  by_cases G:b=a
  ·subst G;obtain ⟨H,I⟩:=i.1 o;exact ⟨f o,Oa f A (I (Heap.get?_some_iff.mp A).2),H⟩
  ·exact ⟨o,(N9 s.heap f (Ne.symm G)).trans A,rfl⟩
 |alloc o k j=>exact fun p s i w=>u _ p s.heap {s with heap:=s.heap.push o} (fun b J A=>⟨J,AW _ A,rfl⟩) (j _ p {s with heap:=s.heap.push o} (i _) w)
 |loadIfAlive a k j=>exact fun p s i w=>j _ p s (i _) w
 |point l k j=>exact fun p s i w=>j () p s i w
 |register a k j=>exact fun p s i w=>w.elim
 |fresh k j=>exact fun p s i w=>j _ p {s with toks:=s.toks+1} (i _) w
 |ask k j=>exact fun p s i w=>j _ p s (i _) w
 |choose F n k j=>exact fun p s i ⟨z,w⟩=>⟨z,j _ p {s with drawn:=s.drawn.bump F} (i _) w⟩
 |os q l k j=>exact fun p s i w=>j _ p {s with os:=(Os.step s.os q).1} (i _) w
 |call c h g l k j=>exact fun p s i w=>i.elim
 |handled o k j=>exact fun p s i w=>j _ p s (i _) w
 |newGen c k j=>exact fun p s i w=>j _ p {s with gens:=s.gens.push (.fresh c)} (i _) w
 |genState g k j=>exact fun p s i ⟨st,e,w⟩=>⟨st,e,j _ p s (i _) w⟩
 |resume g r l k j=>exact fun p s i w=>i.elim
 |yield v g l k j=>exact fun p s i w=>w.elim
 |stack k j=>exact fun p s i w=>j _ p s (i _) w
 |fork c k j=>exact fun p s i w=>w.elim
 |thread k j=>exact fun p s i w=>j _ p s (i _) w
 |await a t b l k j=>exact fun p s i w=>w.elim
def KB {d:Type} {t:Sem d} {Q:d→Shared→Prop} {E:Value→Shared→Prop} {s:Shared} (k:KD t) (h:wpAny M A t Q E s):wpAny M A t (fun a b=>Q a b∧wy s.heap b.heap) (fun a b=>E a b∧wy s.heap b.heap) s:=
 fun e p c=>iy t p s k (h e p c)
def KD.bind {j m:Type} {f:j→Sem m}:∀{t:Sem j},KD t→(∀a,KD (f a))→KD (t >>=f):=by
 intro t
 induction t with
 |pure a=>exact fun _ h=>h a
 |raise e=>exact fun _ _=>True.intro
 |unsupported w=>exact fun _ _=>True.intro
 |finish w=>exact fun _ _=>True.intro
 |rule t k i=>exact fun d h=>i () d h
 |«at» t k i=>exact fun d h=>i () d h
 |load a x k i=>exact fun d h o=>i o (d o) h
 |update a x g k i=>exact fun d h=>⟨d.1,i () d.2 h⟩
 |alloc o k i=>exact fun d h a=>i a (d a) h
 |loadIfAlive a k i=>exact fun d h a=>i a (d a) h
 |point l k i=>exact fun d h=>i () d h
 |register a k i=>exact fun d h=>True.intro
 |fresh k i=>exact fun d h a=>i a (d a) h
 |ask k i=>exact fun d h a=>i a (d a) h
 |choose src n k i=>exact fun d h a=>i a (d a) h
 |os q l k i=>exact fun d h a=>i a (d a) h
 |call c h g l k i=>exact fun d h=>d.elim
 |handled o k i=>exact fun d h a=>i a (d a) h
 |newGen c k i=>exact fun d h a=>i a (d a) h
 |genState g k i=>exact fun d h a=>i a (d a) h
 |resume g r l k i=>exact fun d h=>d.elim
 |yield v g l k i=>exact fun d h=>True.intro
 |stack k i=>exact fun d h a=>i a (d a) h
 |fork c k i=>exact fun d h=>True.intro
 |thread k i=>exact fun d h a=>i a (d a) h
 |await a t b l k i=>exact fun d h=>True.intro
def GH {d:Type} {c:Prop} [Decidable c] {a b:Sem d} (h:KD a) (e:KD b):KD (if c then a else b):=by split<;>assumption
def Pf:KD (load a):=fun _=>True.intro
def iz {f:Array Value→Array Value} (o:Obj):(Obj.mapFields f o).dict=o.dict∧(o.isFreed=false→(Obj.mapFields f o).isFreed=false):=by obtain ⟨c,d,a,s⟩:=o;cases a<;>exact ⟨rfl,fun h=>h⟩
def iA:KD (fieldsOf v):=by
 unfold fieldsOf;split
 ·exact KD.bind Pf fun o=>by split<;>exact True.intro
 ·exact True.intro
def Mr {i:Nat}:KD (field v i):=by unfold field;exact KD.bind iA fun o=>by split<;>exact True.intro
def Pg {i:Nat}:KD (setField v i x):=by
 unfold setField;split
 ·unfold updateField;refine KD.bind Pf fun o=>?_;split
  ·exact GH ⟨iz,True.intro⟩ True.intro
  ·exact True.intro
 ·exact True.intro
def Ph {o:Option Addr}:KD (setFlight v o):=by unfold setFlight;exact KD.bind Mr fun o=>GH Pg True.intro
def iB {n:String}:KD (newFields n v):=by
 unfold newFields newObj;unfold newObjAsIs;dsimp only;split
 ·exact True.intro
 ·exact fun a=>True.intro
def VG:∀{l:List Env},KD (readyFrames l)
 |[]=>True.intro
 |e::a=>by
  unfold readyFrames;split
  ·refine KD.bind Pf fun o=>GH True.intro (KD.bind ?_ fun b=>KD.bind ?_ fun v=>KD.bind ⟨fun o=>⟨rfl,fun h=>?_⟩,True.intro⟩ fun _=>VG)
   ·unfold behindIsImport;exact GH True.intro (GH True.intro (KD.bind Mr fun _=>True.intro))
   ·unfold keptBack;split
    ·exact GH True.intro fun _=>True.intro
    ·exact True.intro
   ·obtain ⟨c,d,f,s⟩:=o;cases f<;>exact h
  ·exact True.intro
def iC:KD (PySem.frameOf e):=by
 unfold PySem.frameOf;refine KD.bind (fun _=>True.intro) fun l=>KD.bind ?_ fun o=>?_
 ·unfold frameObject;split
  ·exact True.intro
  ·exact KD.bind VG fun _=>True.intro
 ·split<;>exact True.intro
def iD {b:Bool}:KD (entryPlaceOf f b):=by
 unfold entryPlaceOf;intro l
 show KD (match l.find? _ with |some (_,pos)=>_ |none=>_)
 split<;>exact True.intro
def VH:KD (noteFrame e a):=by
 unfold noteFrame;split
 ·refine KD.bind Mr fun h=>?_;have AQ:∀f:Addr,KD (do setField e 1 (←EntryCells.newEntry h (←PySem.frameOf a) .none (rawInt f) .none (←entryPlaceOf f (h != .none)))):=fun f=>KD.bind iC fun _=>KD.bind iD fun _=>KD.bind iB fun _=>Pg
  refine GH (KD.bind Mr fun x=>GH True.intro (KD.bind Pg fun _=>?_)) ?_
  ·exact AQ _
  ·exact AQ _
 ·exact True.intro
def VI:KD (leaving a e):=by unfold leaving;exact KD.bind VH fun _=>Ph
open Classical in
def blank (p:Addr→Prop) (h:Heap):Heap:=⟨h.objs.mapIdx fun i o=>if p i then {o with data:=.freed} else o,h.life⟩
def HA {p:Addr→Prop} (a:p b):(blank p h).get? b=none:=by
 unfold blank Heap.get?;simp only [Array.getElem?_mapIdx];cases e:h.objs[b]? with
 |none=>rfl
 |some o=>simp [a]
def HB {p:Addr→Prop} {h:Heap} (a:¬p b):(blank p h).get? b=h.get? b:=by
 unfold blank Heap.get?;simp only [Array.getElem?_mapIdx];cases e:h.objs[b]? with
 |none=>rfl
 |some o=>simp [a]
def Pi {p:Addr→Prop}:(blank p h).StaysIn h:=fun b o e=>by
 by_cases a:p b
 ·rw [HA a] at e;cases e
 ·rw [HB a] at e;exact e
inductive Ms (h0 h:Heap) (H:Hp) (a:Addr) (C:Value) (da:Option Addr):Prop where
 |mk (new:h0.get? a=none) (no:H a=none) (oe:Obj) (vs:Array Value) (a0:Value) (T:Addr) (oT:Obj) (ts:Array Value) (e1:h.get? a=some oe) (e2:oe.cls=C∧vs[0]?=some a0) (e3:oe.data=.fields vs) (e4:vs[1]?=some (.ref T)) (e5:h0.get? T=none) (e6:H T=none) (e7:T≠a) (e8:h.get? T=some oT) (e9:oT.data=.fields ts) (e10:ts[3]?=some .none) (e11:oe.dict=da):Ms h0 h H a C da
abbrev Fs (n:Str):Value:=.str n 0
inductive Br (P:Program) (w:World) (K:Frag) (outer:List Env) (H:Hp) (s:Shared) (E:XK) (e:Value) (s':Shared):Prop where
 |mk (a C:Addr) (n:Str) (da:Option Addr) (H':Hp) (ee:e=.ref a) (os:s'.os=s.os) (bare:AllBare s'.gens) (un:Un (frs outer) [] H H' s.heap s'.heap) (hok:HOk P w H' s'.heap) (fly:Ms s.heap s'.heap H' a (.ref C) da) (nm:nsIn K mainGlobals n=some (some (.ref C))) (q:E (Fs n) da H'):Br P w K outer H s E e s'
def Mt {h a:Heap} {p:Addr→Prop}:∀{l:List Env},h.FunFrames a l→(∀b∈frs l,p b)→h.FunFrames (blank p h) l
 |[],_,_=>trivial
 |f::rest,⟨k,⟨L,o,c,_,g,i⟩,r⟩,d=>⟨k,⟨L,o,c,HA (d L (by unfold frs;rw [IG,c];exact AX)),g,i⟩,
  Mt r fun b e=>d b (by unfold frs at e ⊢;rw [IG,c];exact A2 _ e)⟩
def Pj {h:Heap} {o:HO} (x:wu P w H h a o):∃b,h.get? a=some b:=by
 cases o with
 |lst d=>obtain ⟨_,_,_,_,e⟩:=x;exact ⟨_,e⟩
 |tup d=>obtain ⟨_,_,_,⟨_,e,_⟩,_⟩:=x;exact ⟨_,e⟩
 |own y=>exact x
 |ins C f fs=>obtain ⟨_,_,_,e,_⟩:=x;exact ⟨_,e⟩
 |xd fs=>obtain ⟨_,⟨_,_,_,e,_⟩,_⟩:=x;exact ⟨_,e⟩
 |frz b u=>obtain ⟨e,_⟩:=x;exact ⟨_,e⟩
 |tbl p=>exact ⟨_,x⟩
 |ext c=>exact x.2.1
 |mex c=>exact x.2.1
 |dct c=>exact x.2.1
structure Lv (X:Cx) (E:XK):Prop where
 xe:∀e s',wpAny (model X.prog X.w) X.A (leaving X.env e) (fun _ s''=>Br X.prog X.w X.K X.outer X.H₀ X.s₀ E e s'') (fun e' s''=>Br X.prog X.w X.K X.outer X.H₀ X.s₀ E e' s'') s'→X.xe e s'
 stk:X.stack=X.env::X.outer
 fr:X.env.frame=some X.env.locals
 ex:X.ex=[]
def Pk {K:Frag} {N:List Str}:Lv (CT (Br P w K) P w K m b N q a f c A o s H E) E:=
 ⟨fun _ _ h=>h,rfl,rfl,rfl⟩
section
variable {X:Cx} {E:XK}
def Lv.frs (l:Lv X E):L2.frs X.stack=X.env.locals::X.fs:=by rw [l.stk];unfold L2.frs;rw [IG,l.fr];rfl
def VJ {H:Hp} {s:Shared} (J:Lv X E)
 (I:Inv X w σ H s)
 (Z:X.s₀.heap.get? a=none) (nT:X.s₀.heap.get? T=none) (M:H a=none) (hT:H T=none) {a0:Value}
 (L:Heap.LeftW (blank (fun b=>b=a∨b=T∨b∈frs X.stack) s.heap) X.stack a C a0 s.heap i) {N:Option Addr} {O:Obj} (ea:s.heap.get? a=some O) (ed:O.dict=N) (dd:wy s.heap i):
 Un X.fs [] X.H₀ H X.s₀.heap i∧HOk X.prog X.w H i∧Ms X.s₀.heap i H a C N:=by
 obtain ⟨stay,ff,⟨oe,P,t,oT,ts,e1,e2,e3,e4,x,e6,Q,e8,e9⟩,j⟩:=L;have R:oe.dict=N:=by obtain ⟨l,q1,q2⟩:=dd a O ea;rw [e1] at q1;cases q1;exact q2.trans ed
 have B:Un X.fs [] X.H₀ H X.s₀.heap s.heap:=by have:=I.base;rw [J.ex] at this;exact this
 have S:=I.stack;have f:∀b∈frs X.stack,H b=none:=fun b h=>I.stkFree b h;have k:∀b o,¬(b=a∨b=T∨b∈frs X.stack)→s.heap.get? b=some o→i.get? b=some o:=fun b o h e=>stay b o (by rw [HB h];exact e);have y:∀b o,X.s₀.heap.get? b=some o→b∉X.fs→b∉frs X.stack:=fun b o e h z=>by
  rw [J.frs] at z;rcases qa6.mp z with z |z
  ·have:=AY e;rw [z] at this;exact absurd (Bn this I.ok.above) (Ea _)
  ·exact h z
 have g:∀b o,X.s₀.heap.get? b=some o→b≠a∧b≠T:=fun b o e=>⟨fun z=>(by rw [z,Z] at e;cases e),fun z=>(by rw [z,nT] at e;cases e)⟩
 have d:∀b,b∈frs X.stack→∃o,s.heap.get? b=some o∧∀P,o.data≠.fields P:=fun b h=>(S.mem h).2;have any:∀b o,X.s₀.heap.get? b=some o→s.heap.get? b≠none→∃l,i.get? b=some l:=fun b o e hn=>by
  cases e':s.heap.get? b with
  |none=>exact absurd e' hn
  |some l=>
   by_cases h:b∈frs X.stack
   ·obtain ⟨G,p,r⟩:=d b h;obtain ⟨sl,A⟩:=j b G p r;exact ⟨_,A⟩
   ·exact ⟨l,k b l (fun z=>by rcases z with z |z |z;exact (g b o e).1 z;exact (g b o e).2 z;exact h z) e'⟩
 refine ⟨⟨fun b o e n h F=>?_,fun b o e n h F=>?_,B.free,fun b o e F=>?_,B.tups,B.frzs,B.tbls⟩,fun b o e=>?_,Z,M,oe,P,a0,t,oT,ts,e1,e2,e3,e4,?_,?_,e6,Q,e8,e9,R⟩
 ·exact k b o (fun z=>by rcases z with z |z |z;exact (g b o e).1 z;exact (g b o e).2 z;exact y b o e h z) (B.keep b o e n h F)
 ·obtain ⟨sl,v⟩:=B.slot b o e n h F;have U:b∈frs X.stack:=by rw [J.frs];exact A2 _ h
  obtain ⟨G,p,r⟩:=d b U;rw [v] at p;cases p;obtain ⟨W,A⟩:=j b _ v r;exact ⟨W,A⟩
 ·obtain ⟨l,v⟩:=B.there b o e F;exact any b o e (by rw [v];simp)
 ·refine (I.hok b o e).stay (fun c u Y q=>k c u (fun z=>?_) q) (fun _ q=>q) fun _ _ q=>q;have m:H c≠none:=by
   rcases Y with rfl |Y
   ·rw [e];simp
   ·rw [Y];simp
  rcases z with z |z |z
  ·exact m (z ▸ M)
  ·exact m (z ▸ hT)
  ·exact m (f c z)
 ·cases q:X.s₀.heap.get? t with
  |none=>rfl
  |some o=>
   exfalso;obtain ⟨l,v⟩:=B.there t o q (by simp)
   by_cases h:t∈frs X.stack
   ·obtain ⟨G,p,r⟩:=d t h;obtain ⟨sl,A⟩:=j t G p r;rw [A] at Q;cases Q;exact r _ e8
   ·rw [HB (fun z=>by rcases z with z |z |z;exact (g t o q).1 z;exact (g t o q).2 z;exact h z),v] at x;cases x
 ·cases q:H t with
  |none=>rfl
  |some o=>
   exfalso
   by_cases h:t=a∨t=T∨t∈frs X.stack
   ·rcases h with z |z |z
    ·rw [z,M] at q;cases q
    ·rw [z,hT] at q;cases q
    ·rw [f t z] at q;cases q
   ·rw [HB h] at x;obtain ⟨ob,eb⟩:=Pj (I.hok t o q);rw [eb] at x;cases x
def Lv.older (l:Lv X E) {p:PQ} {a:L2.St} {H:Hp} {s:Shared} (I:Inv X p a H s):∀b,s.heap.get? b=none→X.s₀.heap.get? b=none:=fun b c=>by
 cases q:X.s₀.heap.get? b with
 |none=>rfl
 |some o=>obtain ⟨d,h⟩:=I.base.there b o q (by rw [l.ex];simp);rw [c] at h;cases h
def VL (l:Lv X E):CS (Br X.prog X.w X.K) X E:=by
 rintro p x H1 s1 e s I ⟨a,C,n,y,H,A,os,c,un,g,j,B,q⟩;subst A;have i:Inv X p x H s:=I.call' os un g c (fun b k=>absurd k (by simp));obtain ⟨f,m,F,G,v,T,J,N,w,O,P,R,S,U,W,Y,Z,o,r⟩:=j;have t:X.A.frames=some (X.env::X.outer):=by rw [←l.stk];exact i.ok.frames
 have u:s.heap.FunFrames X.base (X.env::X.outer):=by have:=i.stack;rw [l.stk] at this;exact this
 have run:=KB VI (wpAny_leaving_nextW (M:=model X.prog X.w) (E:=fun _ _=>False) (Q:=fun _ d=>∃h,d={s with heap:=h}∧Heap.LeftW (blank (fun b=>b=a∨b=T∨b∈frs X.stack) s.heap) (X.env::X.outer) a (.ref C) v s.heap h) (base:=blank (fun b=>b=a∨b=T∨b∈frs X.stack) s.heap) (cls:=.ref C) (a0:=v) t (Mt u fun b k=>.inr (.inr (by rw [l.stk];exact k))) l.fr
  ⟨F,G,T,J,N,w,O,P,R,HA (.inr (.inl rfl)),W,Y,Z,o⟩ Pi (HA (.inl rfl)) fun h L=>⟨h,rfl,L⟩)
 refine l.xe _ _ (Bm run (fun _ d z=>?_) fun _ _ z=>z.1.elim);obtain ⟨⟨h,rfl,L⟩,D⟩:=z;obtain ⟨u1,u2,u3⟩:=VJ l i (l.older I a f) (l.older I T S) m U (by rw [l.stk] at *;exact L) w r D;exact ⟨a,C,n,y,H,rfl,i.os,c,u1,u2,u3,B,q⟩
def iE (l:Lv X E) {p:PQ} {j:L2.St} {H:Hp} {s:Shared} {a C:Addr} {n:Str} {d:Option Addr} {o:Obj} {v:Array Value} {e:Value} (I:Inv X p j H s)
 (i:s.heap.get? a=some o) (k:o.cls=.ref C) (m:o.data=.fields v) (r:v[0]?=some e) (t:v[1]?=some .none) (w:o.dict=d) (new:X.s₀.heap.get? a=none) (fresh:H a=none) (x:nsIn X.K mainGlobals n=some (some (.ref C))) (q:E (Fs n) d H):X.xe (.ref a) s:=by
 have f:X.A.frames=some (X.env::X.outer):=by rw [←l.stk];exact I.ok.frames
 have g:s.heap.FunFrames X.base (X.env::X.outer):=by have:=I.stack;rw [l.stk] at this;exact this
 have run:=KB VI (wpAny_leaving_firstW (M:=model X.prog X.w) (E:=fun _ _=>False) (Q:=fun _ c=>∃h,c={s with heap:=h}∧Heap.LeftW (blank (fun b=>b=a∨b=a∨b∈frs X.stack) s.heap) (X.env::X.outer) a o.cls e s.heap h) (base:=blank (fun b=>b=a∨b=a∨b∈frs X.stack) s.heap) (a0:=e) f (Mt g fun b y=>.inr (.inr (by rw [l.stk];exact y))) l.fr
  i Pi (HA (.inl rfl)) m t r fun A L=>⟨A,rfl,L⟩)
 refine l.xe _ _ (Bm run (fun _ c z=>?_) fun _ _ z=>z.1.elim);obtain ⟨⟨h,rfl,L⟩,D⟩:=z;obtain ⟨B,F,u⟩:=VJ l I new new fresh fresh (by rw [l.stk] at *;exact L) i w D;rw [k] at u;exact ⟨a,C,n,d,H,rfl,I.os,I.bare,B,F,u,x,q⟩
def iF (l:Lv X E) {p:PQ} {b:L2.St} {H:Hp} {s:Shared} {h:Heap} {a C:Addr} {n:Str} {v:List Value} (I:Inv X p b H s)
 (m:Heap.MadeExcOf s.heap h a (.ref C) v) (c:nsIn X.K mainGlobals n=some (some (.ref C))) (q:E (Fs n) none H):X.xe (.ref a) {s with heap:=h}:=by
 have i:Inv X p b H {s with heap:=h}:=I.kept m.keeps;obtain ⟨t,d,f,g⟩:=m.there;have fresh:H a=none:=by
  cases q:H a with
  |none=>rfl
  |some o=>obtain ⟨j,e⟩:=Pj (I.hok a o q);rw [m.new] at e;cases e
 exact iE l i d rfl rfl rfl rfl rfl (l.older I a m.new) fresh c q
end
section
variable {P:Program} {w:World} {K:Frag} {mg:Str→Option Value} {base:Heap} {N:List Str} {qual:Str} {scope:Scope} {f:Addr} {cd:Value} {A:Around} {outer:List Env} {s:Shared} {H:Hp} {E:XK}
def iG:CS (Br P w K) (CT (Br P w K) P w K mg base N qual scope f cd A outer s H E) E:=VL Pk
def iH {b:Shared} (I:Inv (CT (Br P w K) P w K mg base N qual scope f cd A outer s H E) p d h b)
 (m:Heap.MadeExcOf b.heap c a (.ref C) v) (e:nsIn K mainGlobals n=some (some (.ref C))) (q:E (Fs n) none h):(CT (Br P w K) P w K mg base N qual scope f cd A outer s H E).xe (.ref a) {b with heap:=c}:=iF Pk I m e q
end
inductive VM (h:Heap) (C:Addr) (bmB:List Value) (newId:String):Prop where
 |mk (bm:List Value) (N:Addr) (nm q:Str) (bs:List Value) (hdct:Bool) (sn:List Str) (sub:List Value) (ab:Bool) (col:Option Bool) (dd:Option Addr) (k0 k1 k2 k3 k5:Option Value) (mN:Str→Option Value)
  (hC:h.get? C=some (excClassObj nm q C N bs bm hdct sn sub ab col dd k0 k1 k2 k3 k5 newId)) (hN:h.Ns N mN) (hni:mN "__init__"=none) (T:OwnTail h bmB bm):VM h C bmB newId
def Pl (K:Frag) (C:Addr) (b:List Value) (n:String):Prop:=∀h:Heap,K.In h→VM h C b n
def iI {d:Data} {c:ClassData} (h:IT d=some c):d=.cls c:=by cases d<;>first |(cases h;rfl) |cases h
inductive VN {α:Type} (l:List α):Prop where
 |mk (a b c d e f:α) (q:l=[a,b,c,d,e,f]):VN l
def iJ {i:Type} {l:List i} (h:l.length=6):VN l:=by
 cases l with
 |nil=>cases h
 |cons a l=>cases l with
  |nil=>cases h
  |cons b l=>cases l with
   |nil=>cases h
   |cons c l=>cases l with
    |nil=>cases h
    |cons d l=>cases l with
     |nil=>cases h
     |cons e l=>cases l with
      |nil=>cases h
      |cons f l=>cases l with
       |nil=>exact ⟨a,b,c,d,e,f,rfl⟩
       |cons g l=>cases h
def iL {K:Frag} {n:String} (q:Od K C b n=true):Pl K C b n:=by
 intro h X;unfold Od at q;cases lk:K.lookup C with
 |none=>rw [lk] at q;cases q
 |some o=>
  rw [lk] at q;replace q:(match IT o.data with |some a=>Ly K C b n o a |none=>false)=true:=q;cases e:IT o.data with
  |none=>rw [e] at q;cases q
  |some a=>
   rw [e] at q;replace q:Ly K C b n o a=true:=q;unfold Ly at q;simp only [CP,decide_eq_true_eq,Bool.not_eq_true',beq_iff_eq] at q;obtain ⟨g,d,i,j,f,k,l,p⟩:=q;obtain ⟨r,u,v,⟨w⟩⟩:=o;obtain ⟨x,bs,m,s,y,z,A,sub,B,t,del⟩:=a;replace e:=iI e;simp only at e g d i j f k l p;obtain ⟨E,F,G,H,I,J,rfl⟩:=iJ l;cases m with
   |nil=>cases d
   |cons c L=>cases d;cases Option.some.inj p;subst e g i;exact ⟨_,_,_,_,_,_,_,_,_,_,_,_,_,_,_,_,h.nsMap s,X _ _ lk,.of_isNs (PySem.W.isNs_of_in X f),PySem.W.nsMap_none_of_in X f k,PySem.W.tail_of_in X j⟩
def Pm (X:Cx) (E:XK):Prop:=∀(p:PQ) (b:L2.St) (H:Hp) (s:Shared) (h:Heap) (a C:Addr) (n:Str) (v:List Value),Inv X p b H s→Heap.MadeExcOf s.heap h a (.ref C) v→nsIn X.K mainGlobals n=some (some (.ref C))→E (Fs n) none H→X.xe (.ref a) {s with heap:=h}
def iM {K:Frag} {N:List Str}:
 Pm (CT (Br P w K) P w K e c N d b f g A o s H E) E:=fun p i j k l a C n v I m h q=>iH I m h q
section
variable {X:Cx} {E:XK}
def GI (n:Str) (f:MA):MS:=fun a h=>(f a h).bind fun x b=>if x.length≤sizeLine then .err (Fs n) [] b else .stuck
def iN {e:Expr} (O:Pl X.K C Lz "ValueError.__new__") (n:nsIn X.K mainGlobals x=some (some (.ref C))) (M:Gl X x) (P:X.calm=true) (Q:Pm X E) (R:CU X E (e::g) B)
 (o:(x==("__debug__":Str))=false:=by decide) (S:starEach (e::g) X.env=(false,eval e X.env)::starEach g X.env:=by rfl) (t:(backTo c (starEach (e::g) X.env)).any (·.1)=false:=by rfl):
 Ex X E (.Raise (some (.Call (.Name x L) (e::g) [] c)) none pos) (GI x B):=by
 rintro b s F H D I ⟨m,U,h,W,Y,p⟩;have Z:X.mg x=some (.ref C):=mg_of I.mod.kin I.mod.glob n;obtain ⟨bm,NN,nm,q,bs,i,sn,sub,ab,u,dd,k0,G,k2,k3,k5,mN,hC,hN,v,T⟩:=O X.base I.mod.kin;refine wpAny_Raise_call_subT (C:=C) (nm:=nm) (q:=q) (N:=NN) (bs:=bs) (bm:=bm) (hdct:=i) (sn:=sn) (sub:=sub) (ab:=ab) (col:=u) (dd:=dd) (k0:=k0) (k1:=G) (k2:=k2) (k3:=k3) (k5:=k5)
  PySem.F.excBase_ValueError (mN:=mN) (T.hasType PySem.F.excBase_ValueError.hasBase) (I.ok.hd P) t v (Gj I M Z ⟨rfl,?_⟩ o)
 have J:=R c b s F H (fun w j=>w.length≤sizeLine∧E (Fs x) none j) I ⟨m,U,h,W,Y,wg.bind p fun xs h1 w m1 j _ p1 G y r1 k=>by
  split at k
  ·rename_i hz;exact ⟨by rw [←DVs.len r1];exact hz,k none m1 j (AI _) (.refl _) y (fun f d z=>by cases z)⟩
  ·exact k.elim⟩
 rw [S] at J ⊢;exact Calls.evalArgs_plain (Ap J fun us s1 A=>by obtain ⟨w,j,l,r,hl,k⟩:=A;exact (⟨rfl,by rw [←r.length];exact hl,l.bk _ _ hC,hN.keeps l.bk,T.keeps l.bk,fun h' a z=>Q b F j s1 h' a C x us l z n k⟩))
inductive spE (K:Frag) (F:TF) (vs:List V) (H:Hp) (Q:VK) (E:XK):Prop where
 |mk (m:List Addr) (ds:List D) (h:HD) (hr:HR K m h H) (r:DVs K m H ds vs) (p:wa K (rD K) m H E Q (F ds h)):spE K F vs H Q E
def iO {K:Frag}:CS (Br P w K) X E0:=fun _ _ _ _ _ _ _ z=>by obtain ⟨_,_,_,_,_,_,_,_,_,_,_,_,q⟩:=z;exact (q.elim)
def VO {K:Frag} {n:Nat} {F:TF} (a:Ar n F) {v:List V} {H:Hp} {Q:VK} {b:XK} (h:spE K F v H Q b):v.length=n:=by
 obtain ⟨m,d,c,f,r,p⟩:=h;rw [←r.len]
 by_cases e:d.length=n
 ·exact e
 ·rw [a d c e] at p;exact p.elim
structure CaE (P:Program) (w:World) (K:Frag) (mg:Str→Option Value) (base:Heap) (x:Str) (k:Nat) (F:TF):Prop where
 ex:∃(f:Addr) (fd:FuncData) (ps:List Str),wz P w K mg base (Br P w K) k f fd ps (spE K F)∧Binds K fd ps []∧mg x=some (.ref f)∧keepIn K (.ref f)=true
def iP {k i:Nat} {F:TF} {x:Str} {e:Expr} (C:CaE X.prog X.w X.K X.mg X.base x k F) (h:wm i X.A) (l:CS (Br X.prog X.w X.K) X E) (n:CU X E (e::a) j) (hk:k≤i:=by decide) (o:Gl X x:=by rfl)
 (b:(x==("__debug__":Str))=false:=by decide) (q:starEach (e::a) X.env=(false,eval e X.env)::starEach a X.env:=by rfl) (c:(backTo pos (starEach a X.env)).any (·.1)=false:=by rfl):
 Ev X E (.Call (.Name x p) (e::a) [] pos) (Ab F j):=by
 obtain ⟨f,J,L,G,r,s,d⟩:=C.ex;exact BR (dA (E:=E) G (h.mono hk) o s d r .nil l n b q c) fun M H Q z=>by obtain ⟨m,t,u,h,v,p⟩:=z;exact (⟨m,t,u,h,v,wa.bind p fun w y N A O P R S g B I=>by rw [FO];exact ⟨A,w,y,g,B,I⟩⟩)
def Mu {K:Frag} {st:Stmt} {N n:List Str} {k:Nat} {F:TF} (O:Fun K x q st f B) (S:Fd N n (wb st)) (G:Ar n.length F)
 (R:∀c h,c.length=n.length→F c h=Al N.length g c h)
 (l:∀(e:Value) (A:Around) (b:List Env) (s:Shared) (H:Hp) (E:XK),wm k (A.deeper (envOfC q (wb st) s.heap.objs.size f e))→Df (CT (Br P w K) P w K z j N q (wb st) f e A b s H E) E (wh st) g):wz P w K z j (Br P w K) (k+1) f B n (spE K F):=by
 obtain ⟨oc,od,kV,T,pm,an,e,ct,U,rfl,lk,t⟩:=O.ex;refine dH lk t S (fun W H Q E h=>VO G h) fun A b s H W Q E Y h=>?_;refine ⟨_,l e A b s H E Y,?_⟩;have Z:=VO G h;obtain ⟨m,c,u,i,r,p⟩:=h;have y:c.length=n.length:=by rw [r.len];exact Z
 refine ⟨m,c.map some++List.replicate (N.length - c.length) none,u,i,ER.start r,?_⟩;rw [R c u y] at p;unfold Al at p;cases o:g (c.map some++List.replicate (N.length - c.length) none) u with
 |stuck=>rw [o] at p;exact p
 |err C fs h1=>rw [o] at p;exact p
 |ok a h1=>
  rw [o] at p;obtain ⟨fl,ρ1⟩:=a;intro I J L M i;cases fl with
  |nx=>exact fun σ er=>p .non I J L M i (by simp [rD,DV])
  |bk=>exact False.elim p
  |ct=>exact False.elim p
  |rt d=>exact fun v rv=>p v I J L M i rv
end
def VP {K:Frag} {N:List Str}:
 PassesOwn (model P w) (CT (Br P w K) P w K m b N q a f c A o s H E).A (CT (Br P w K) P w K m b N q a f c A o s H E).env (CT (Br P w K) P w K m b N q a f c A o s H E).xe:=by
 passes_own
section
variable {X:Cx} {E:XK}
abbrev MO:=Ag→HD→Out (Option Int)
abbrev Jo (X:Cx) (E:XK) (e:Option Expr) (f:MO):Prop:=PO X e (tM X.K (fun _ _ a b=>a=b) E f)
def Ft:MO:=fun _ h=>.ok none h
def EV (f:ME):MO:=fun a h=>(f a h).bind fun x b=>match x with
 |.int i=>.ok (some i) b
 |_=>.stuck
def VQ {e:Option Expr} {t b:TO} (h:PO X e t) (i:∀a H Q,b a H Q→t a H Q):PO X e b:=fun p s a H Q I q=>h p s a H Q I (i a H Q q)
def iQ:Jo X E none Ft:=VQ dR fun b H Q z=>by obtain ⟨m,c,h,a,e,p⟩:=z;exact (p none m H (AI _) (.refl _) a rfl)
def iR (b:Ev X E e f):Jo X E (some e) (EV f):=VQ (dS b) fun n H Q z=>by obtain ⟨m,c,h,d,g,p⟩:=z;exact (⟨m,c,h,d,g,wa.bind p fun x o v j k l s t a r q=>by
 clear l;split at q
 ·rename_i i;simp only [rD,DV] at r;exact ⟨i,r,q (some i) j k (AI _) (.refl _) a rfl⟩
 ·exact q.elim⟩)
def cutD (x:List D) (lo h:Option Int):List D:=(x.drop (HT.sIx x.length 0 lo)).take (HT.sIx x.length x.length h - HT.sIx x.length 0 lo)
def DVs.cut {K:Frag} (r:DVs K m H d v) (lo h:Option Int):DVs K m H (cutD d lo h) (Gp v lo h):=by unfold cutD Gp;rw [r.len];exact (r.drop _).take _
def Jp (o i x y:D) (c:Ag) (h:HD):Out (Fl×Ag):=match x,y with
 |.int a,.int b=>Ht o i (.int (a+b)) h (.ok (.nx,c) h)
 |_,_=>.stuck
noncomputable def Jq (o i:D) (h:HD):Out D:=match o,i with
 |.loc l,.int n=>if 0≤n then (match h[l]? with
  |some (.lst a)=>(match a[n.toNat]? with
   |some d=>.ok d h
   |none=>.stuck)
  |_=>.stuck) else .stuck
 |_,_=>.stuck
noncomputable def KC (fo f b:ME):MS:=fun a h=>(fo a h).bind fun o c=>(f a c).bind fun i d=>(Jq o i d).bind fun x e=>(b a e).bind fun y g=>Jp o i x y a g
def iS:Uq X (fun x y H Q=>∃(p:Addr) (a:List V) (i:Nat) (v:V),x=.ref p∧y=.int i∧SqL X.K H p a∧a[i]?=some v∧Q v H):=by
 intro c s n H o i u A Q I e f h;obtain ⟨p,a,k,z,rfl,rfl,g,d,q⟩:=h;cases e;obtain ⟨t,rfl⟩:=f;obtain ⟨j,r,l,B⟩:=I.list g;obtain ⟨w,m,b⟩:=r.get d;have hk:k<a.length:=(qa1.mp d).1;have C:sizeLine≤2^30:=by unfold sizeLine;omega
 exact wpAny_getItem_list l.isList (by omega) (by omega) (by simpa using m) ⟨z,H,I,b,q⟩
def iT {fo U W:ME} (ho:Ev X E o fo) (hi:Ev X E i U) (he:Ev X E e W)
 (x:∀f g new,augStore i f g new=(do holding [new,f,g] (setItem f g new);release [new,f,g] [];pure .next):=by intros;rfl):Ex X E (.AugAssign (.Subscript o i t) .Add e pos) (KC fo U W):=
 DO (bP ho hi iS he bR UP x) fun Dn σ H ⟨m,A,h,hr,z,p⟩=>⟨m,A,h,hr,z,wg.bind p fun f h1 vo m1 H1 B C F G r1 q1=>
  ⟨m1,A,h1,G,z.keep C F,wg.bind q1 fun g h2 vi m2 H2 I J L r Y q=>by
   clear B I;have Z:=DV.keep J L r1;unfold Jq at q;split at q
   ·rename_i l n;split at q
    ·rename_i hn;split at q
     ·rename_i ds el;split at q
      ·rename_i d ek;simp only [Out.bind_ok] at q;obtain ⟨k,rfl⟩:∃k:Nat,n=(k:Int):=⟨n.toNat,by omega⟩
       simp only [DV] at Z;obtain ⟨a,rfl,x⟩:=Z;simp only [rD,DV] at Y;subst Y;obtain ⟨ws,hv,dv⟩:=r.cells l _ a el x;obtain ⟨wv,ew,M⟩:=dv.get (by simpa using ek);refine ⟨a,ws,k,wv,rfl,rfl,SqL.of hv,ew,m2,A,h2,r,(z.keep C F).keep J L,wg.bind q fun y h4 vy m4 H4 N O k4 s r4 c=>?_⟩;clear N;unfold Jp at c;split at c
       ·rename_i P Q;have rx:=DV.keep O k4 M;simp only [DV] at rx;simp only [rD,DV] at r4;subst rx r4;refine ⟨P,Q,rfl,rfl,?_⟩;unfold Ht at c;simp only at c;split at c
        ·rename_i R S;split at c
         ·rename_i j ej;have u:=Hj O x;obtain ⟨w,b,v⟩:=s.cells l _ a S u;refine ⟨a,w,k,j,rfl,rfl,b,by rw [←v.len];exact ej,?_⟩;have T:HR X.K m4 (h4.set l (.lst (R.set j (.int (P+Q))))) (Av H4 a (.lst (w.set j (.int (P+Q))))):=s.setCell u b rfl ⟨_,CA,(v.set j (by simp [DV])).keep (AI _) (.set b rfl)⟩;exact c m4 _ (AI _) (.set b rfl) T σ ((((z.keep C F).keep J L).keep O k4).keep (AI _) (.set b rfl))
         ·exact c.elim
        ·exact c.elim
       ·exact c.elim
      ·exact q.elim
     ·exact q.elim
    ·exact q.elim
   ·exact q.elim⟩⟩
end
def wN:∀{a:List Int} {i:List Value},Vals (a.map V.int) i→∃y:List (Int×Tok),i=y.map (fun p=>Value.int p.1 p.2)∧y.map (·.1)=a
 |[],i,r=>by cases r;exact ⟨[],rfl,rfl⟩
 |n::a,i,r=>by
  cases r with
  |cons b c=>obtain ⟨t,rfl⟩:=b;obtain ⟨y,rfl,e⟩:=wN c;exact ⟨(n,t)::y,rfl,by simp [e]⟩
section
variable {X:Cx}
def iU (m:X.calm=true):De X (.builtin "min") (fun x H Q=>∃(p:Addr) (n:List Int),x=[.ref p]∧SqL X.K H p (n.map V.int)∧n≠[]∧∀M,M∈n→(∀a∈n,M≤a)→Q (.int M) H):=by
 intro k s J H x L Q I r h;obtain ⟨p,n,rfl,o,d,q⟩:=h;obtain ⟨u,rfl,w⟩:=Ec r;cases w;obtain ⟨z,A,B,N⟩:=I.list o;obtain ⟨y,rfl,e⟩:=wN A;have b:y.length=n.length:=by rw [←e];simp
 have c:0<y.length:=by rw [b];exact List.length_pos_iff.mpr d
 have C:s.heap.IsList p (intItems y.toArray):=by have:=B.isList;simpa [intItems] using this
 refine min_intList (I.ok.hd m) C (by simpa using c) fun v O P E hk=>?_;obtain ⟨t,rfl⟩:=intItems_at E;obtain ⟨R,F⟩:=argBest_lt (numAt y.toArray) (y.toArray.size - 1);have G:y.toArray.size=y.length:=by simp
 have f:∀j,j<y.length→numAt y.toArray j∈n:=fun j g=>by rw [numAt_eq];simp only [EG];rw [←e,Bl (by simpa using g)];simp only [Option.getD_some];exact J9 _
 refine ⟨.int (numAt y.toArray (argBest _ (y.toArray.size - 1))),H,I.kept hk,⟨t,rfl⟩,q _ (f _ (by omega)) fun a l=>?_⟩;rw [←e] at l;obtain ⟨j,g,rfl⟩:=IH l;have i:j<y.length:=by simpa using g
 have:=F j (by omega);rw [numAt_eq y.toArray j] at this;simpa [EG,Bl i] using this
def Fu:List Int→Int
 |[]=>0
 |n::a=>a.foldl min n
def Pn:∀(b:List Int) (n:Int),(b.foldl min n∈n::b)∧∀a∈n::b,b.foldl min n≤a
 |[],n=>by simp
 |m::b,n=>by
  obtain ⟨c,h⟩:=Pn b (min n m);rw [Kb];refine ⟨?_,fun a d=>?_⟩
  ·rcases qa6.mp c with z |z
   ·rw [z];rcases Int.le_total n m with q |q
    ·rw [Int.min_eq_left q];simp
    ·rw [Int.min_eq_right q];simp
   ·exact A2 _ (A2 _ z)
  ·have e:=h (min n m) AX;rcases qa6.mp d with z |z
   ·subst z;omega
   ·rcases qa6.mp z with z |z
    ·subst z;omega
    ·exact h a (A2 _ z)
def Po {ns:List Int} (h:ns≠[]):Fu ns∈ns:=by
 cases ns with
 |nil=>exact absurd rfl h
 |cons n ns=>exact (Pn ns n).1
def Pp {b:List Int} {a:Int} (h:a∈b):Fu b≤a:=by
 cases b with
 |nil=>cases h
 |cons n b=>exact (Pn b n).2 a h
noncomputable def Fv (f:List Int→Int):D→HD→Out D:=fun x h=>match x with
 |.loc l=>match h[l]? with
  |some (.lst d)=>match Bp (d.map GC) with
   |some n=>if n=[] then .stuck else .ok (.int (f n)) h
   |none=>.stuck
  |_=>.stuck
 |_=>.stuck
def iV (f:X.calm=true):C1 X (.builtin "min") (Ai (Fv Fu)):=by
 refine ⟨_,iU f,fun m H h E g x Q c r q=>Fi r q fun d v i e q=>?_⟩;unfold Fv at q;split at q
 ·rename_i l;split at q
  ·rename_i g j;split at q
   ·rename_i n k;split at q
    ·exact q.elim
    ·rename_i b;simp only [DV] at e;obtain ⟨a,rfl,o⟩:=e;obtain ⟨y,p,s⟩:=c.cells l _ a j o;have t:=O7 s k;subst t;refine ⟨a,n,i,SqL.of p,b,fun M u w=>?_⟩;have:M=Fu n:=Int.le_antisymm (w _ (Po b)) (Pp u);subst this;exact Bb c q (by simp [DV])
   ·exact q.elim
  ·exact q.elim
 ·exact q.elim
end
def VR (K:Frag) (t:Addr):It:=⟨fun i H=>∃a,SqL K H t a∧i<a.length,fun i H x h=>∃p v,H p=none∧x=.ref p∧(∀a:List V,SqL K H t a→a[i]?=some v)∧h=Av H p (.tup [.int i,v]),fun i H=>∃a,SqL K H t a∧i=a.length⟩
def iW {K:Frag} {kt:Nat} (e a t:Addr) (G:e≠a) (hte:t≠e) (N:t≠a):
 FP P w K (.Tuple L kt M) (VR K t) [e,a] e (fun i h=>(∃f,IsEnum h e a i f)∧h.IsListIter a t i) where
 mem:=by simp
 obj:=fun i h st b d=>by
  obtain ⟨⟨f,Z⟩,o,y,j,hd⟩:=st;rcases qa6.mp d with z |z
  ·subst z;exact ⟨_,Z,fun v z=>by cases z⟩
  ·rw [qaG] at z;subst z;exact ⟨o,y,fun v z=>by rw [hd] at z;cases z⟩
 keep:=fun i h h' st k=>by obtain ⟨⟨f,Z⟩,y⟩:=st;exact ⟨⟨f,k e (by simp) _ Z⟩,y.at fun o z=>k a (by simp) o z⟩
 item:=by
  intro X hP hw hK j i C s σ H E I O st hg;subst hP hw hK;obtain ⟨⟨f,J⟩,B⟩:=st;obtain ⟨R,hq,hi⟩:=hg;obtain ⟨g,rv,p,hz⟩:=I.list hq;have hT:s.heap.IsList t g.toArray:=p.isList;have hl:=rv.length;obtain ⟨e0,e1,e2,e3,e4,e5⟩:=O e (by simp);obtain ⟨i0,i1,i2,i3,i4,i5⟩:=O a (by simp);have hx:R[i]?=some R[i]:=Bl hi;refine wpAny_pyNext_enum_itemD (Draws.list (A:=X.A.in1) (I.ok.hd j) a t N g.toArray) J ⟨B,hT⟩ (by rw [Bh];omega) G (by simp [G,Ne.symm hte]) fun x Z S hPx ho hs1 T hsz hk=>?_;obtain ⟨u,hu,ru⟩:=rv.get hx;have hux:u=x:=by
   have:g[i]?=some x:=by simpa using hPx
   rw [hu] at this;exact Option.some.inj this
  subst hux;refine ⟨.ref s.heap.objs.size,rfl,wpAny_letOwnedTupleGo_enum ho fun y he2 sb=>?_⟩;have l:H s.heap.objs.size=none:=I.hok.fresh (AK _);have U:∀b o,b∉[e,a]→s.heap.get? b=some o→y.get? b=some o:=fun b o d z=>by have n1:b≠e:=fun q=>d (by simp [q]);have n2:b≠a:=fun q=>d (by simp [q]);exact (sb.2 b n1).trans (hk b o n1 n2 z)
  have na:s.heap.objs.size≠e:=Jf (AY J);have F:y.get? s.heap.objs.size=some {cls:=.type "tuple",data:=.seq #[.int i S,u]}:=(sb.2 _ na).trans T;have W:∀b w,H b=some w→b∉[e,a]:=fun b w z d=>by
   rcases qa6.mp d with q |q
   ·rw [q,e0] at z;cases z
   ·rw [qaG.mp q,i0] at z;cases z
  have Y:∀b o,s.heap.get? b=some o→b≠s.heap.objs.size:=fun b o z=>B0 (AY z);have it2:y.IsListIter a t (i+1):=by obtain ⟨o,q,r⟩:=hs1.1;exact ⟨o,(sb.2 a (Ne.symm G)).trans q,r⟩
  refine ⟨.ref s.heap.objs.size,Av H s.heap.objs.size (.tup [.int i,R[i]]),?_,rfl,⟨s.heap.objs.size,R[i],l,rfl,fun ys hy=>by rw [I.list_inj hy hq];exact hx,rfl⟩,⟨⟨u,he2⟩,it2⟩,fun b d=>?_⟩
  ·show Inv X C σ _ {s with heap:=y,gens:=s.gens,drawn:=s.drawn,toks:=S+1}
   refine I.step (g':=s.gens) (d':=s.drawn) (t':=S+1) (h':=y) (ch:=[e,a]) (fun b d=>?_) (fun b o _ _ j z _=>U b o j z) (fun b o _ _ j z _=>⟨o.slots,U b o j z⟩) (fun b o _ z n=>by rw [AJ (Y b o z)];exact n)
    (fun b o j z=>⟨o,U b o j z⟩) (fun b ys z=>by rw [AJ (BY z l)];exact z) (fun b o u z=>by rw [AJ (BY z l)];exact z) (fun b ps z=>⟨#[],by rw [AJ (BY z l),z];simp⟩) (fun m hm=>?_) (fun b w z=>?_) I.bare
   ·rcases qa6.mp d with q |q
    ·subst q;exact ⟨e3,e1,e4,e5⟩
    ·rw [qaG] at q;subst q;exact ⟨i3,i1,i4,i5⟩
   ·obtain ⟨o,es,ep,q,r⟩:=hm;exact ⟨o,es,ep,U _ o (by simp [Ne.symm e1,Ne.symm i1]) q,r⟩
   ·by_cases d:b=s.heap.objs.size
    ·subst d;rw [CA] at z;cases z;exact ⟨by simp only [Dc,Ka];rw [sizeLine_eq];decide,[.int i S,u],.cons ⟨S,rfl⟩ (.cons ru .nil),⟨_,F,rfl,0,rfl⟩,fun o e=>by rw [F] at e;cases e;rfl⟩
    ·rw [AJ d] at z;refine (I.hok b w z).stay (fun c v j q=>U c v ?_ q) (fun c q=>by rw [AJ (BY q l)];exact q) fun c ys q=>by rw [AJ (BY q l)];exact q
     rcases j with rfl |j
     ·exact W c _ z
     ·exact W c _ j
  ·have nb:b≠s.heap.objs.size:=by
    rcases qa6.mp d with q |q
    ·rw [q];exact na.symm
    ·rw [qaG.mp q];obtain ⟨o,z,_⟩:=B;exact Y _ _ z
   rw [AJ nb];exact (O b d).1
 done:=by
  intro X hP hw hK j i C s σ H E I O st hg;subst hP hw hK;obtain ⟨⟨f,J⟩,B⟩:=st;obtain ⟨R,hq,hi⟩:=hg;obtain ⟨g,rv,p,hz⟩:=I.list hq;have hT:s.heap.IsList t g.toArray:=p.isList;have hl:=rv.length;obtain ⟨i0,i1,i2,i3,i4,i5⟩:=O a (by simp);have hin:i=g.toArray.size:=by rw [Bh];omega
  refine wpAny_pyNext_enum_endD (Draws.list (A:=X.A.in1) (I.ok.hd j) a t N g.toArray) J (hin ▸ ⟨B,hT⟩) fun h' eb=>⟨rfl,I.turned (t':=s.toks) (fun b o d z=>eb b o d z) i0 i1 i3 i4 i5⟩
 self:=fun A i s Q E st h=>by obtain ⟨⟨f,J⟩,_⟩:=st;exact wpAny_pyIter_enum J h
section
variable {X:Cx} {E:XK}
def iX {M:Nat} {J:TA} (N:Gl X "enumerate") (O:X.mg "enumerate"=none) (P:PA X [a] J) (Q:starEach [a] X.env=[(false,eval a X.env)]:=by rfl):
 PI X (.Tuple l M m) (.Call (.Name "enumerate" p) [a] [] pos) (fun n H R=>J n H fun w g=>(∃t x,w=[.ref t]∧SqT X.K g t x∧R (Vu X.K t x) g)∨∃t x,w=[.ref t]∧SqL X.K g t x∧R (VR X.K t) g):=by
 intro d s n H R I h;refine Call_ (Hg I N O boot_enumerate (PyProof.Rows.callWith_type1 (Ap (P pos d s n H _ I h) fun W c y=>?_) Q rfl));obtain ⟨w,g,i,L,S⟩:=y;rcases S with ⟨t,x,e,A,q⟩ |⟨t,x,e,A,q⟩
 ·subst e;cases L with
  |cons r B=>
   cases B;cases r;obtain ⟨j,T,p,U⟩:=i.tuple A;have v:c.heap.IsTuple t j.toArray:=p;have f:t<c.heap.objs.size:=p.lt;refine hL v fun o u k C hk=>wpAny_pyIter_enum (s:={c with heap:=o}) u ?_;have F:Inv X d n g {c with heap:=o}:=i.kept (t':=c.toks) hk;refine ⟨c.heap.objs.size+1,[c.heap.objs.size+1,c.heap.objs.size],_,_,g,rfl,F,hR (c.heap.objs.size+1) c.heap.objs.size t (Nat.succ_ne_self _) (B0 (IJ f)) (B0 f) x,⟨⟨.none,u⟩,k⟩,fun b G=>?_,q⟩;rcases qa6.mp G with z |z
   ·subst z;exact i.fpOk (IS _) (i.hok.fresh (IS _))
   ·rw [qaG] at z;subst z;exact i.fpOk (AK _) (i.hok.fresh (AK _))
 ·subst e;cases L with
  |cons r B=>
   cases B;cases r;obtain ⟨j,T,p,U⟩:=i.list A;have v:c.heap.IsList t j.toArray:=p.isList;have f:t<c.heap.objs.size:=by obtain ⟨_,z,_⟩:=v;exact AY z
   refine call_enumerate_list v fun o u k C hk=>wpAny_pyIter_enum (s:={c with heap:=o}) u ?_;have F:Inv X d n g {c with heap:=o}:=i.kept (t':=c.toks) hk;refine ⟨c.heap.objs.size+1,[c.heap.objs.size+1,c.heap.objs.size],_,_,g,rfl,F,iW (c.heap.objs.size+1) c.heap.objs.size t (Nat.succ_ne_self _) (B0 (IJ f)) (B0 f),⟨⟨.none,u⟩,k⟩,fun b G=>?_,q⟩;rcases qa6.mp G with z |z
   ·subst z;exact i.fpOk (IS _) (i.hok.fresh (IS _))
   ·rw [qaG] at z;subst z;exact i.fpOk (AK _) (i.hok.fresh (AK _))
noncomputable def HC:List D→HD→Out (List D×Bj):=fun d h=>match d with
 |[.tup x]=>.ok (Fp x,[]) h
 |[.loc l]=>match h[l]? with
  |some (.lst x)=>.ok (Fp x,[(l,x)]) h
  |_=>.stuck
 |_=>.stuck
def Dm (f:MA):MI:=fun a h=>(f a h).bind HC
def iY {S:Nat} (T:Gl X "enumerate") (U:X.mg "enumerate"=none) (e:CU X E [a] O) (W:starEach [a] X.env=[(false,eval a X.env)]:=by rfl):
 DP X E (.Tuple k S t) (.Call (.Name "enumerate" p) [a] [] pos) (Dm O):=
 Jd (iX T U e W) fun σ H R ⟨m,Y,h,Z,er,p⟩=>⟨m,Y,h,Z,er,wa.bind p fun x h1 v P Q eo p1 k1 f r q=>by
  clear eo;unfold HC at q;split at q
  ·rename_i c;simp only [EO,DVs,DV] at r;obtain ⟨v,w,rfl,⟨a,z,rfl,e,s⟩,rfl⟩:=r;refine .inl ⟨a,z,rfl,tq e,q _ P Q (AI _) (.refl _) f fun i m2 h2 H2 A u d _=>⟨fun g=>?_,fun g=>?_⟩⟩
   ·have b:i<c.length:=by simpa [Fp] using g
    refine ⟨⟨by rw [←s.len];exact b,tq (e.keep u)⟩,fun y H3 ⟨B,vv,j,C,F,G⟩=>?_⟩;subst C G;have n:c[i]?=some c[i]:=Bl b;obtain ⟨v2,o,I⟩:=s.get n;rw [F] at o;cases o;refine ⟨.new j,d.new j,.tup [.int i,c[i]],?_,?_⟩
    ·simp [Fp,n]
    ·simp only [DV];exact ⟨B,_,rfl,.inl CA,.cons (by simp [DV]) (.cons (DV.keep A (u.trans (.new j)) I) .nil)⟩
   ·exact ⟨by rw [←s.len];simpa [Fp] using g,tq (e.keep u)⟩
  ·rename_i l;split at q
   ·rename_i c el;simp only [EO,DVs,DV] at r;obtain ⟨v,w,rfl,⟨a,rfl,e⟩,rfl⟩:=r;obtain ⟨z,hv,s⟩:=f.cells l _ a el e;refine .inr ⟨a,z,rfl,SqL.of hv,q _ P Q (AI _) (.refl _) f fun i m2 h2 H2 A u d J=>?_⟩;obtain ⟨L,M,N⟩:=d.cells l _ a (J _ AX) (Hj A e);refine ⟨fun g=>?_,fun g=>⟨L,SqL.of M,by rw [←N.len];simpa [Fp] using g⟩⟩;have b:i<c.length:=by simpa [Fp] using g
    refine ⟨⟨L,SqL.of M,by rw [←N.len];exact b⟩,fun y H3 ⟨B,vv,j,C,F,G⟩=>?_⟩;subst C G;have n:c[i]?=some c[i]:=Bl b;obtain ⟨v2,o,I⟩:=N.get n;rw [F L (SqL.of M)] at o;cases o;refine ⟨.new j,d.new j,.tup [.int i,c[i]],?_,?_⟩
    ·simp [Fp,n]
    ·simp only [DV];exact ⟨B,_,rfl,.inl CA,.cons (by simp [DV]) (.cons (DV.keep (AI _) (.new j) I) .nil)⟩
   ·exact q.elim
  ·exact q.elim⟩
end
structure Jr (z TI TO p q:Addr) (f g:List Addr):Prop where
 a1:TI≠z
 a2:TO≠z
 a3:p≠z
 a4:q≠z
 a5:TI≠TO
 a6:TI≠p
 a7:TI≠q
 a8:TO≠p
 a9:TO≠q
 b1:p≠q
 b2:z∉f
 b3:z∉g
 b4:TO∉f
 b5:TO∉g
 b6:p∉g
 b7:q∉f
section
variable {prog:Program} {w:World} {A:Around} {E:Value→Shared→Prop} {s:Shared} {z TI TO p q:Addr} {f g:List Addr} {n1 n2 k:Nat} {P1 P2:Nat→Value→Prop} {S1 S2:Nat→Heap→Prop} {a b:Value}
def iZ {Q:Value→Shared→Prop} (R:Draws prog w A p f n1 P1 S1) (S:Draws prog w A q g n2 P2 S2) (d:Jr z TI TO p q f g)
 (C:IsZip s.heap z TI TO .none) (zi:IsPair s.heap TI (.ref p) (.ref q)) (zo:IsPair s.heap TO a b) (s1:S1 k s.heap) (s2:S2 k s.heap) (l1:k<n1) (l2:k<n2)
 (hQ:∀l tk x y,P1 k x→P2 k y→IsZip l z TI TO (rawInt s.heap.objs.size)→IsPair l TO x y→S1 (k+1) l→S2 (k+1) l→IsPair l s.heap.objs.size x y→
  (∀c o,c≠z→c≠TO→c≠p→c≠q→s.heap.get? c=some o→l.get? c=some o)→Q (.ref s.heap.objs.size) {s with heap:=l,toks:=tk}):
 wpAny (model prog w) A (Builtin.«zip.__next__» ⟨[.ref z],[]⟩) (fun AQ s'=>∃v,AQ=.done (.ret v)∧Q v s') E s:=by
 show wpAny _ _ (field (.ref z) 2 >>=_) _ _ _
 refine Aj (wpAny_field C rfl (x:=.bool false) rfl ?_)
 show wpAny _ _ (field (.ref z) 3 >>=_) _ _ _
 refine Aj (wpAny_field C rfl (x:=.ref TI) rfl ?_);refine Aj (wpAny_seqItems zi rfl ?_)
 show wpAny _ _ (Builtin.SmallTypes.ownedTupleIsFree (.ref z) >>=_) _ _ _
 refine Aj ?_;unfold Builtin.SmallTypes.ownedTupleIsFree;refine Aj (wpAny_field C rfl (x:=.none) rfl (AD ?_));simp only [if_true];refine Aj (wpAny_rule ?_);refine Aj (wpAny_field C rfl (x:=.ref TO) rfl ?_);refine Aj (wpAny_setField_rec C (by simp) fun m1 n F=>?_);replace n:IsZip m1 z TI TO .ellipsis:=n;refine Aj ?_;simp only [List.zipIdx_cons,List.zipIdx_nil,Lu,List.forIn_nil];refine Aj (Aj (wpAny_onRaise ?_))
 show wpAny _ _ (Builtin.SmallTypes.nextOf (.ref p) >>=_) _ _ _
 refine Aj (R.item k _ _ _ l1 (R.frame k _ _ s1 fun c h o e=>F.extBut _ _ (fun y=>d.b2 (y ▸ h)) e) fun x m2 tk2 px T G=>AD ?_);have H:IsPair m2 TO a b:=G.extBut _ _ d.a8 (F.extBut _ _ d.a2 zo);refine Aj (wpAny_seqItems H rfl ?_);refine Aj (wpAny_updateSeq_pair H fun m3 r I=>?_);replace r:IsPair m3 TO x b:=r;refine Aj (wpAny_letGo (AD ?_));refine Aj (Aj (wpAny_onRaise ?_))
 show wpAny _ _ (Builtin.SmallTypes.nextOf (.ref q) >>=_) _ _ _
 have U:S2 k m3:=S.frame k _ _ s2 fun c h o e=>I.extBut _ _ (fun y=>d.b5 (y ▸ h)) (G.extBut _ _ (fun y=>d.b6 (y ▸ h)) (F.extBut _ _ (fun y=>d.b3 (y ▸ h)) e));refine Aj (S.item k _ _ _ l2 U fun y m4 W py X J=>AD ?_);have L:IsPair m4 TO x b:=J.extBut _ _ d.a9 r;refine Aj (wpAny_seqItems L rfl ?_);refine Aj (wpAny_updateSeq_pair L fun m i M=>?_);replace i:IsPair m TO x y:=i;refine Aj (wpAny_letGo (AD (AD ?_)));refine Aj (wpAny_seqItems i rfl ?_);refine Aj (wpAny_newTuple ?_);have sz:m.objs.size=s.heap.objs.size:=by rw [M.1,J.1,I.1,G.1,F.1]
 have N:IsZip m z TI TO .ellipsis:=M.extBut _ _ d.a2.symm (J.extBut _ _ d.a4.symm (I.extBut _ _ d.a2.symm (G.extBut _ _ d.a3.symm n)));have kp:∀c o,c≠z→c≠TO→c≠p→c≠q→s.heap.get? c=some o→m.get? c=some o:=fun c o t P Y Z e=>M.extBut _ _ P (J.extBut _ _ Z (I.extBut _ _ P (G.extBut _ _ Y (F.extBut _ _ t e))));have O:z<m.objs.size:=AY N
 show wpAny _ _ (Builtin.SmallTypes.ownedTupleHandOut (.ref z) (.ref m.objs.size) >>=_) _ _ _
 refine Aj ?_;unfold Builtin.SmallTypes.ownedTupleHandOut;have zz6:IsZip (m.push {cls:=.type "tuple",data:=.seq #[x,y]}) z TI TO .ellipsis:=AW _ N;refine Aj (wpAny_setField_rec zz6 (by simp) fun m7 u t7=>?_);replace u:IsZip m7 z TI TO (rawInt m.objs.size):=u;refine wpAny_setField_rec u (by simp) fun B j t8=>?_;replace j:IsZip B z TI TO (rawInt m.objs.size):=j;have up:∀c o,c≠z→m.get? c=some o→B.get? c=some o:=fun c o t e=>t8.extBut _ _ t (t7.extBut _ _ t (AW _ e));have nw:IsPair B m.objs.size x y:=t8.extBut _ _ (CG O) (t7.extBut _ _ (CG O) (Bx _ rfl));rw [sz] at j nw;refine AD ⟨_,rfl,?_⟩
 show Q (.ref m.objs.size) _
 rw [sz];refine hQ B W x y px py j (up _ _ d.a2 i) (R.frame _ m2 B T fun c h o e=>?_) (S.frame _ m4 B X fun c h o e=>?_) nw fun c o t P Y Z e=>up c o t (kp c o t P Y Z e)
 ·have n1:c≠TO:=fun y=>d.b4 (y ▸ h);exact up c o (fun y=>d.b2 (y ▸ h)) (M.extBut _ _ n1 (J.extBut _ _ (fun y=>d.b7 (y ▸ h)) (I.extBut _ _ n1 e)))
 ·exact up c o (fun y=>d.b3 (y ▸ h)) (M.extBut _ _ (fun y=>d.b5 (y ▸ h)) e)
def i6 {Q:Fin→Shared→Prop} (G:Draws prog w A p f n1 P1 S1) (R:Draws prog w A q g n2 P2 S2) (d:Jr z TI TO p q f g)
 (l:IsZip s.heap z TI TO .none) (X:IsPair s.heap TI (.ref p) (.ref q)) (Y:IsPair s.heap TO a b) (Z:S1 k s.heap) (s2:S2 k s.heap) (hk:k=n1∨(k<n1∧k=n2))
 (S:∀H tk e,(∀c o,c≠z→c≠TO→c≠p→c≠q→s.heap.get? c=some o→H.get? c=some o)→(∃o,H.get? e=some o∧o.cls=.type "StopIteration")→E (.ref e) {s with heap:=H,toks:=tk}):
 wpAny (model prog w) A (Builtin.«zip.__next__» ⟨[.ref z],[]⟩) Q E s:=by
 show wpAny _ _ (field (.ref z) 2 >>=_) _ _ _
 refine Aj (wpAny_field l rfl (x:=.bool false) rfl ?_)
 show wpAny _ _ (field (.ref z) 3 >>=_) _ _ _
 refine Aj (wpAny_field l rfl (x:=.ref TI) rfl ?_);refine Aj (wpAny_seqItems X rfl ?_)
 show wpAny _ _ (Builtin.SmallTypes.ownedTupleIsFree (.ref z) >>=_) _ _ _
 refine Aj ?_;unfold Builtin.SmallTypes.ownedTupleIsFree;refine Aj (wpAny_field l rfl (x:=.none) rfl (AD ?_));simp only [if_true];refine Aj (wpAny_rule ?_);refine Aj (wpAny_field l rfl (x:=.ref TO) rfl ?_);refine Aj (wpAny_setField_rec l (by simp) fun T h m=>?_);replace h:IsZip T z TI TO .ellipsis:=h;refine Aj ?_;simp only [List.zipIdx_cons,List.zipIdx_nil,Lu,List.forIn_nil];refine Aj (Aj (wpAny_onRaise ?_))
 show wpAny _ _ (Builtin.SmallTypes.nextOf (.ref p) >>=_) _ _ _
 have n:=G.frame k _ T Z fun c r o e=>m.extBut _ _ (fun y=>d.b2 (y ▸ r)) e;rcases hk with hk |⟨hk,I⟩
 ·subst hk;refine Aj (G.done _ _ _ n fun J e t L=>?_);obtain ⟨M,i,u⟩:=L;have v:IsZip J z TI TO .ellipsis:=t _ _ d.a3.symm h;have ne:e≠z:=fun y=>by subst y;rw [v] at i;cases i;simp at u
  exact wpAny_setField_rec v (by simp) fun N _ j=>S N _ e (fun c o B _ O _ y=>j.extBut _ _ B (t _ _ O (m.extBut _ _ B y))) ⟨M,j.extBut _ _ ne i,u⟩
 ·subst I;refine Aj (G.item k _ _ _ hk n fun x J tk2 px s12 t=>AD ?_);have C:IsPair J TO a b:=t.extBut _ _ d.a8 (m.extBut _ _ d.a2 Y);refine Aj (wpAny_seqItems C rfl ?_);refine Aj (wpAny_updateSeq_pair C fun N zo3 j=>?_);refine Aj (wpAny_letGo (AD ?_));refine Aj (Aj (wpAny_onRaise ?_))
  show wpAny _ _ (Builtin.SmallTypes.nextOf (.ref q) >>=_) _ _ _
  have P:S2 k N:=R.frame k _ _ s2 fun c r o e=>j.extBut _ _ (fun y=>d.b5 (y ▸ r)) (t.extBut _ _ (fun y=>d.b6 (y ▸ r)) (m.extBut _ _ (fun y=>d.b3 (y ▸ r)) e));refine Aj (R.done _ _ _ P fun m4 e U L=>?_);obtain ⟨M,i,u⟩:=L;have F:IsZip m4 z TI TO .ellipsis:=U _ _ d.a4.symm (j.extBut _ _ d.a2.symm (t.extBut _ _ d.a3.symm h));have ne:e≠z:=fun y=>by subst y;rw [F] at i;cases i;simp at u
  exact wpAny_setField_rec F (by simp) fun m5 _ W=>S m5 _ e (fun c o B c2 O c4 y=>W.extBut _ _ B (U _ _ c4 (j.extBut _ _ c2 (t.extBut _ _ O (m.extBut _ _ B y))))) ⟨M,W.extBut _ _ ne i,u⟩
def i7 {Q:Option Value→Shared→Prop} (i:Draws prog w A.in1 p f n1 P1 S1) (j:Draws prog w A.in1 q g n2 P2 S2) (l:Jr z TI TO p q f g)
 (d:IsZip s.heap z TI TO .none) (m:IsPair s.heap TI (.ref p) (.ref q)) (n:IsPair s.heap TO a b) (r:S1 k s.heap) (u:S2 k s.heap) (v:k<n1) (B:k<n2)
 (C:∀h t x y,P1 k x→P2 k y→IsZip h z TI TO (rawInt s.heap.objs.size)→IsPair h TO x y→S1 (k+1) h→S2 (k+1) h→IsPair h s.heap.objs.size x y→
  (∀c o,c≠z→c≠TO→c≠p→c≠q→s.heap.get? c=some o→h.get? c=some o)→Q (some (.ref s.heap.objs.size)) {s with heap:=h,toks:=t}):
 wpAny (model prog w) A (pyNext (.ref z)) Q E s:=by
 have e:s.TypeIs (.ref z) "zip":=⟨_,d,rfl⟩
 unfold pyNext;exact Aj (wpAny_attempt (wpAny_callSpecial?_slot (name:=Str.ofString "__next__") e F.slot_zip_next (wpAny_call_entry F.slot_zip_next e F.entry_zip_next
  (iZ i j l d m n r u v B fun h t x y G H I J L M N O=>AD (C h t x y G H I J L M N O)) (F.args_zip_next_1 _))))
def i8 {Q:Option Value→Shared→Prop} (j:Draws prog w A.in1 p f n1 P1 S1) (l:Draws prog w A.in1 q g n2 P2 S2) (m:Jr z TI TO p q f g)
 (d:IsZip s.heap z TI TO .none) (n:IsPair s.heap TI (.ref p) (.ref q)) (r:IsPair s.heap TO a b) (u:S1 k s.heap) (v:S2 k s.heap) (hk:k=n1∨(k<n1∧k=n2))
 (x:∀h t,(∀c o,c≠z→c≠TO→c≠p→c≠q→s.heap.get? c=some o→h.get? c=some o)→Q none {s with heap:=h,toks:=t}):wpAny (model prog w) A (pyNext (.ref z)) Q E s:=by
 have i:s.TypeIs (.ref z) "zip":=⟨_,d,rfl⟩
 unfold pyNext;refine Aj (wpAny_attempt (wpAny_callSpecial?_slot (name:=Str.ofString "__next__") i F.slot_zip_next (wpAny_call_entry F.slot_zip_next i F.entry_zip_next
  (i6 j l m d n r u v hk fun h t e y B=>?_) (F.args_zip_next_1 _))))
 obtain ⟨o,C,G⟩:=B;refine Aj (wpAny_isInstance (T:="StopIteration") (b:=true) ⟨o,C,G⟩ isSubtype_stop ?_);exact AD (x _ _ y)
end
open AutoSeq1 (wpAny_loadPart')
def wQ:Bool→Heap→Addr→Addr→Nat→Prop
 |true,h,a,l,i=>h.IsTupleIter a l i
 |false,h,a,l,i=>h.IsListIter a l i
def SqA:Bool→Heap→Addr→Array Value→Prop
 |true,h,l,x=>h.IsTuple l x
 |false,h,l,x=>h.IsList l x
def El:Bool→Frag→Hp→Addr→List V→Prop
 |true,K,H,a,x=>SqT K H a x
 |false,K,H,a,x=>SqL K H a x
noncomputable def HE (k:Bool) (l:Addr):Obj:={cls:=.type (if k then "tuple_iterator" else "list_iterator"),data:=.fields #[.ref l,.int 0 0]}
def Mv {A:Around} (k:Bool) (d:A.handled=none) (b l:Addr) (c:l≠b) (a:Array Value):
 Draws p w A b [b,l] a.size (fun i v=>a[i]?=some v) (fun i h=>wQ k h b l i∧SqA k h l a):=by
 cases k
 ·exact Draws.list d b l c a
 ·exact O8 d b l c a
def wQ.obj {k:Bool} {h:Heap} {i:Nat} (x:wQ k h a l i):∃o,h.get? a=some o∧∀v,o.data≠.cell v:=by
 cases k
 ·obtain ⟨o,e,c,d⟩:=x;exact ⟨o,e,fun v z=>by rw [d] at z;cases z⟩
 ·obtain ⟨o,e,c,d⟩:=x;exact ⟨o,e,fun v z=>by rw [d] at z;cases z⟩
def wQ.at {k:Bool} {h h':Heap} {i:Nat} (x:wQ k h it l i) (f:∀o,h.get? it=some o→h'.get? it=some o):wQ k h' it l i:=by
 cases k
 ·exact Heap.IsListIter.at x f
 ·exact Heap.IsTupleIter.at x f
section
variable {X:Cx} {pins:PQ} {σ:L2.St} {H:Hp} {s:Shared}
def Js {k:Bool} (I:Inv X pins σ H s) (h:El k X.K H a x):∃i:List Value,Vals x i∧SqA k s.heap a i.toArray∧a<s.heap.objs.size:=by
 cases k
 ·obtain ⟨i,r,p,_⟩:=I.list h;have q:=p.isList;exact ⟨i,r,q,by obtain ⟨_,e,_⟩:=q;exact AY e⟩
 ·obtain ⟨i,r,p,_⟩:=I.tuple h;exact ⟨i,r,p,p.lt⟩
def VS {k:Bool} (I:Inv X pins σ H s) (h:El k X.K H a x) (b:El k X.K H a y):x=y:=by
 cases k
 ·exact I.list_inj h b
 ·exact I.tuple_inj h b
end
def VT (K:Frag) (k b:Bool) (t u:Addr):It:=⟨fun i H=>∃a y,El k K H t a∧El b K H u y∧i<a.length∧i<y.length,
 fun i H x h=>∃p v c,H p=none∧x=.ref p∧(∀a:List V,El k K H t a→a[i]?=some v)∧(∀y:List V,El b K H u y→y[i]?=some c)∧h=Av H p (.tup [v,c]),
 fun i H=>∃a y,El k K H t a∧El b K H u y∧(i=a.length∨(i<a.length∧i=y.length))⟩
inductive VU (k1 k2:Bool) (z TI TO p q t u:Addr) (i:Nat) (h:Heap):Prop where
 |mk (zz:IsZip h z TI TO .none) (zi:IsPair h TI (.ref p) (.ref q)) (zo:∃a b,IsPair h TO a b) (x1:wQ k1 h p t i) (x2:wQ k2 h q u i):VU k1 k2 z TI TO p q t u i h
def i9 {K:Frag} {kt:Nat} (k1 k2:Bool) (z TI TO p q t u:Addr) (G:Jr z TI TO p q [p,t] [q,u]) (n1:t≠p) (n2:u≠q):
 FP P w K (.Tuple elts kt tpos) (VT K k1 k2 t u) [z,TI,TO,p,q] z (VU k1 k2 z TI TO p q t u) where
 mem:=by simp
 obj:=fun i h st c f=>by
  obtain ⟨l,J,⟨a,b,M⟩,N,O⟩:=st;simp only [qa6,D9,or_false] at f;rcases f with rfl |rfl |rfl |rfl |rfl
  ·exact ⟨_,l,fun v y=>by cases y⟩
  ·exact ⟨_,J,fun v y=>by cases y⟩
  ·exact ⟨_,M,fun v y=>by cases y⟩
  ·exact N.obj
  ·exact O.obj
 keep:=fun i h h' st L=>by obtain ⟨l,J,⟨a,b,M⟩,N,O⟩:=st;exact ⟨L z (by simp) _ l,L TI (by simp) _ J,⟨a,b,L TO (by simp) _ M⟩,N.at fun o e=>L p (by simp) o e,O.at fun o e=>L q (by simp) o e⟩
 item:=by
  intro X hP hw hK f i B s σ H E I Z st hg;subst hP hw hK;obtain ⟨l,J,⟨a,b,M⟩,N,O⟩:=st;obtain ⟨xs,ys,R,S,l1,l2⟩:=hg;obtain ⟨T,U,sq1,lt1⟩:=Js I R;obtain ⟨W,Y,sq2,lt2⟩:=Js I S;have e1:=U.length;have e2:=Y.length;have hh:X.A.in1.handled=none:=I.ok.hd f;refine i7 (Mv k1 hh p t n1 T.toArray) (Mv k2 hh q u n2 W.toArray) G l J M ⟨N,sq1⟩ ⟨O,sq2⟩ (by rw [Bh];omega) (by rw [Bh];omega) fun h1 tk x y px py zz1 zo1 st1 st2 nw L=>?_;refine ⟨.ref s.heap.objs.size,rfl,wpAny_letOwnedTupleGo_zip zz1 fun h2 zz2 sb=>?_⟩;have hx:xs[i]?=some xs[i]:=Bl l1;have hy:ys[i]?=some ys[i]:=Bl l2;obtain ⟨u1,hu1,ru1⟩:=U.get hx;obtain ⟨u2,hu2,ru2⟩:=Y.get hy;have hux:u1=x:=by
   have:T[i]?=some x:=by simpa using px
   rw [hu1] at this;exact Option.some.inj this
  have huy:u2=y:=by
   have:W[i]?=some y:=by simpa using py
   rw [hu2] at this;exact Option.some.inj this
  subst hux huy;have j:H s.heap.objs.size=none:=I.hok.fresh (AK _);have C:∀c o,c∉[z,TI,TO,p,q]→s.heap.get? c=some o→h2.get? c=some o:=fun c o f e=>by simp only [qa6,D9,or_false,not_or] at f;exact (sb.2 c f.1).trans (L c o f.1 f.2.2.1 f.2.2.2.1 f.2.2.2.2 e)
  have g:∀c o,s.heap.get? c=some o→c≠s.heap.objs.size:=fun c o e=>B0 (AY e);have na:s.heap.objs.size≠z:=Ne.symm (g z _ l);have hnew:h2.get? s.heap.objs.size=some {cls:=.type "tuple",data:=.seq #[u1,u2]}:=(sb.2 _ na).trans nw;have F:∀c o,H c=some o→c∉[z,TI,TO,p,q]:=fun c o e f=>by rw [(Z c f).1] at e;cases e
  refine ⟨.ref s.heap.objs.size,Av H s.heap.objs.size (.tup [xs[i],ys[i]]),?_,rfl,⟨s.heap.objs.size,xs[i],ys[i],j,rfl,fun zs hz=>by rw [VS I hz R];exact hx,fun zs hz=>by rw [VS I hz S];exact hy,rfl⟩,
   ⟨zz2,(sb.2 TI G.a1).trans (L TI _ G.a1 G.a5 G.a6 G.a7 J),⟨u1,u2,(sb.2 TO G.a2).trans zo1⟩,st1.1.at fun o e=>(sb.2 p G.a3).trans e,st2.1.at fun o e=>(sb.2 q G.a4).trans e⟩,fun c f=>?_⟩
  ·show Inv X B σ _ {s with heap:=h2,gens:=s.gens,drawn:=s.drawn,toks:=tk}
   refine I.step (g':=s.gens) (d':=s.drawn) (t':=tk) (h':=h2) (ch:=[z,TI,TO,p,q]) (fun c f=>?_) (fun c o _ _ f e _=>C c o f e) (fun c o _ _ f e _=>⟨o.slots,C c o f e⟩) (fun c o _ e n=>by rw [AJ (g c o e)];exact n)
    (fun c o f e=>⟨o,C c o f e⟩) (fun c zs e=>by rw [AJ (BY e j)];exact e) (fun c o v e=>by rw [AJ (BY e j)];exact e) (fun c ps e=>⟨#[],by rw [AJ (BY e j),e];simp⟩) (fun m hm=>?_) (fun c o e=>?_) I.bare
   ·obtain ⟨_,c1,_,c3,c4,c5⟩:=Z c f;exact ⟨c3,c1,c4,c5⟩
   ·obtain ⟨o,es,ep,e,r⟩:=hm;exact ⟨o,es,ep,C _ o (fun f=>(Z _ f).2.1 rfl) e,r⟩
   ·by_cases hb:c=s.heap.objs.size
    ·subst hb;rw [CA] at e;cases e;exact ⟨by simp only [Dc,Ka];rw [sizeLine_eq];decide,[u1,u2],.cons ru1 (.cons ru2 .nil),⟨_,hnew,rfl,0,rfl⟩,fun o e=>by rw [hnew] at e;cases e;rfl⟩
    ·rw [AJ hb] at e;refine (I.hok c o e).stay (fun d v hd k=>C d v ?_ k) (fun d k=>by rw [AJ (BY k j)];exact k) fun d zs k=>by rw [AJ (BY k j)];exact k
     rcases hd with rfl |hd
     ·exact F d _ e
     ·exact F d _ hd
  ·have nc:c≠s.heap.objs.size:=by
    simp only [qa6,D9,or_false] at f;rcases f with rfl |rfl |rfl |rfl |rfl
    ·exact g _ _ l
    ·exact g _ _ J
    ·exact g _ _ M
    ·obtain ⟨o,e,_⟩:=N.obj;exact g _ _ e
    ·obtain ⟨o,e,_⟩:=O.obj;exact g _ _ e
   rw [AJ nc];exact (Z c f).1
 done:=by
  intro X hP hw hK f i B s σ H E I Z st hg;subst hP hw hK;obtain ⟨l,J,⟨a,b,M⟩,N,O⟩:=st;obtain ⟨xs,ys,R,S,hl⟩:=hg;obtain ⟨T,U,sq1,lt1⟩:=Js I R;obtain ⟨W,Y,sq2,lt2⟩:=Js I S;have e1:=U.length;have e2:=Y.length;have hh:X.A.in1.handled=none:=I.ok.hd f;refine i8 (Mv k1 hh p t n1 T.toArray) (Mv k2 hh q u n2 W.toArray) G l J M ⟨N,sq1⟩ ⟨O,sq2⟩ (by simp only [Bh];omega) fun h' tk L=>⟨rfl,?_⟩
  have C:∀c o,c∉[z,TI,TO,p,q]→s.heap.get? c=some o→h'.get? c=some o:=fun c o f e=>by simp only [qa6,D9,or_false,not_or] at f;exact L c o f.1 f.2.2.1 f.2.2.2.1 f.2.2.2.2 e
  have F:∀c o,H c=some o→c∉[z,TI,TO,p,q]:=fun c o e f=>by rw [(Z c f).1] at e;cases e
  show Inv X B σ _ {s with heap:=h',gens:=s.gens,drawn:=s.drawn,toks:=tk}
  refine I.step (g':=s.gens) (d':=s.drawn) (t':=tk) (h':=h') (ch:=[z,TI,TO,p,q]) (fun c f=>?_) (fun c o _ _ f e _=>C c o f e) (fun c o _ _ f e _=>⟨o.slots,C c o f e⟩) (fun c o _ e n=>n)
   (fun c o f e=>⟨o,C c o f e⟩) (fun c zs e=>e) (fun c o v e=>e) (fun c ps e=>⟨#[],by rw [e];simp⟩) (fun m hm=>?_) (fun c o e=>?_) I.bare
  ·obtain ⟨_,c1,_,c3,c4,c5⟩:=Z c f;exact ⟨c3,c1,c4,c5⟩
  ·obtain ⟨o,es,ep,e,r⟩:=hm;exact ⟨o,es,ep,C _ o (fun f=>(Z _ f).2.1 rfl) e,r⟩
  ·refine (I.hok c o e).stay (fun d v hd k=>C d v ?_ k) (fun d k=>k) fun d zs k=>k;rcases hd with rfl |hd
   ·exact F d _ e
   ·exact F d _ hd
 self:=fun A i s Q E st h=>by cases st with |mk l J M N O=>exact wpAny_pyIter_zip l h
abbrev zA (h:Heap) (k:Bool) (t:Addr):Heap:=h.push (HE k t)
abbrev zB (h:Heap) (k a:Bool) (t u:Addr):Heap:=(zA h k t).push (HE a u)
noncomputable abbrev zC (h:Heap) (k a:Bool) (t u:Addr):Heap:=(zB h k a t u).push {cls:=.type "tuple",data:=.seq #[.ref h.objs.size,.ref (zA h k t).objs.size]}
noncomputable abbrev zD (h:Heap) (k a:Bool) (t u:Addr):Heap:=(zC h k a t u).push {cls:=.type "tuple",data:=.seq #[.none,.none]}
noncomputable abbrev zE (h:Heap) (k a:Bool) (t u:Addr):Heap:=(zD h k a t u).push {cls:=.type "zip",data:=.fields #[.none,.bool false,.bool false,.ref (zB h k a t u).objs.size,.ref (zC h k a t u).objs.size]}
def SqA.push {k:Bool} {h:Heap} {a:Array Value} (x:SqA k h l a) (o:Obj):SqA k (h.push o) l a:=by
 cases k
 ·exact Heap.IsList.push x o
 ·exact Heap.IsTuple.push x o
def VV {s:Shared} {k:Bool} {a:Array Value} {Q:Value→Shared→Prop} (x:SqA k s.heap l a) (h:Q (.ref s.heap.objs.size) {s with heap:=s.heap.push (HE k l)}):
 wpAny (model p w) A (pyIter (.ref l)) Q E s:=by
 cases k
 ·exact wpAny_pyIter_list x h
 ·exact wpAny_pyIter_tuple x h
def ja (k a:Bool) (t u:Addr) (x y:Array Value):
 Meets (Builtin.«zip.__new__» ⟨[.type "zip",.ref t,.ref u],[]⟩) (fun _ R s=>SqA k s.heap t x∧SqA a s.heap u y∧
  R (.ok (.ret (.ref (zD s.heap k a t u).objs.size))) {s with heap:=zE s.heap k a t u}):=
 .of_wp fun p w A R s h=>by
  obtain ⟨i,g,d,j,os⟩:=s;obtain ⟨b,c,h⟩:=h;have l:=sub_zip;have e:SqA k (Shared.heap ⟨i,g,d,j,os⟩) t x:=b;have f:SqA a (Shared.heap ⟨i.push (HE k t),g,d,j,os⟩) u y:=SqA.push c _
  wp_walk using VV e,VV f
  exact ⟨_,rfl,h⟩
def wQ.new {k:Bool} {h:Heap} (e:h.get? i=some (HE k l)):wQ k h i l 0:=by
 cases k
 ·exact ⟨_,e,rfl,rfl⟩
 ·exact ⟨_,e,rfl,rfl⟩
def jb {s:Shared} {k a:Bool} {f i:Array Value} {Q:Value→Shared→Prop} (q:SqA k s.heap t f) (r:SqA a s.heap u i)
 (h:∀b,IsZip b (s.heap.objs.size+4) (s.heap.objs.size+2) (s.heap.objs.size+3) .none→IsPair b (s.heap.objs.size+2) (.ref s.heap.objs.size) (.ref (s.heap.objs.size+1))→
  IsPair b (s.heap.objs.size+3) .none .none→wQ k b s.heap.objs.size t 0→wQ a b (s.heap.objs.size+1) u 0→(∀c o,s.heap.get? c=some o→b.get? c=some o)→Q (.ref (s.heap.objs.size+4)) {s with heap:=b}):
 wpAny (model p w) A (call (.type "zip") [.ref t,.ref u]) Q E s:=by
 refine callType_new F.called_zip (by decide) (F.typeCall_zip_2 _ _) (F.newCall_zip_2 _ _) (fun obj=>F.args_object_init_3 obj _ _) F.entry_zip_new
  (ja k a t u f i) ⟨q,r,?_⟩
 have y:(zA s.heap k t).objs.size=s.heap.objs.size+1:=CQ ..;have d:(zB s.heap k a t u).objs.size=s.heap.objs.size+2:=by rw [CQ,y]
 have e:(zC s.heap k a t u).objs.size=s.heap.objs.size+3:=by rw [CQ,d]
 have j:(zD s.heap k a t u).objs.size=s.heap.objs.size+4:=by rw [CQ,e]
 have g:(zE s.heap k a t u).get? (zD s.heap k a t u).objs.size=some _:=Bx _ rfl;have l:(zE s.heap k a t u).get? (zC s.heap k a t u).objs.size=some _:=AW _ (Bx _ rfl);have m:(zE s.heap k a t u).get? (zB s.heap k a t u).objs.size=some _:=AW _ (AW _ (Bx _ rfl));have n:(zE s.heap k a t u).get? (zA s.heap k t).objs.size=some (HE a u):=AW _ (AW _ (AW _ (Bx _ rfl)));have v:(zE s.heap k a t u).get? s.heap.objs.size=some (HE k t):=AW _ (AW _ (AW _ (AW _ (Bx _ rfl))))
 show _∧_
 rw [d,e,j] at g;rw [y,d] at m;rw [e] at l;rw [y] at n;rw [j];exact ⟨⟨_,g,rfl⟩,h _ g m l (.new v) (.new n) fun c o x=>AW _ (AW _ (AW _ (AW _ (AW _ x))))⟩
section
variable {X:Cx} {E:XK}
def jc {Q:Nat} {a b:Expr} {J:TA} (S:Gl X "zip") (T:X.mg "zip"=none) (U:PA X [a,b] J) (W:starEach [a,b] X.env=[(false,eval a X.env),(false,eval b X.env)]:=by rfl) (m:starEach [b] X.env=[(false,eval b X.env)]:=by rfl):
 PI X (.Tuple j Q k) (.Call (.Name "zip" p) [a,b] [] pos) (fun w H R=>J w H fun L i=>∃x y t u M N,L=[.ref t,.ref u]∧El x X.K i t M∧El y X.K i u N∧R (VT X.K x y t u) i):=by
 intro f s w H R I h;refine Call_ (Hg I S T PyProof.Rows.boot_zip (PyProof.Rows.callWith_type1 (Ap (U pos f s w H _ I h) fun us d ⟨L,i,o,Y,Z⟩=>?_) (by rw [W,m]) (by rw [m];rfl)));obtain ⟨x,y,t,u,M,N,e,A,B,q⟩:=Z;subst e;cases Y with
 |cons r C=>
  cases C with
  |cons r' C=>
   cases C;cases r;cases r';obtain ⟨it1,rv1,F,l⟩:=Js o A;obtain ⟨it2,rv2,G,g⟩:=Js o B;refine jb F G fun O P zi zo x1 x2 kp=>wpAny_pyIter_zip (s:={d with heap:=O}) P ?_;have I2:Inv X f w i {d with heap:=O}:=o.kept (t':=d.toks) kp;have fr:∀c,d.heap.objs.size≤c→Dx X f i c:=fun c v=>o.fpOk v (o.hok.fresh v);have m0:d.heap.objs.size≠d.heap.objs.size+4:=BX (by omega);have ap:Jr (d.heap.objs.size+4) (d.heap.objs.size+2) (d.heap.objs.size+3) d.heap.objs.size (d.heap.objs.size+1) [d.heap.objs.size,t] [d.heap.objs.size+1,u]:=by
    generalize d.heap.objs.size=n at l g;exact ⟨BX (by omega),BX (by omega),BX (by omega),BX (by omega),BX (by omega),CG (by omega),CG (by omega),CG (by omega),CG (by omega),BX (by omega),
     fun z=>by simp only [qa6,D9,or_false] at z;rcases z with z |z;exact absurd z (CG (by omega));exact absurd z (CG (Bn l (FN _ _))),
     fun z=>by simp only [qa6,D9,or_false] at z;rcases z with z |z;exact absurd z (CG (by omega));exact absurd z (CG (Bn g (FN _ _))),
     fun z=>by simp only [qa6,D9,or_false] at z;rcases z with z |z;exact absurd z (CG (by omega));exact absurd z (CG (Bn l (FN _ _))),
     fun z=>by simp only [qa6,D9,or_false] at z;rcases z with z |z;exact absurd z (CG (by omega));exact absurd z (CG (Bn g (FN _ _))),
     fun z=>by simp only [qa6,D9,or_false] at z;rcases z with z |z;exact absurd z (BX (by omega));exact absurd z (CG g),
     fun z=>by simp only [qa6,D9,or_false] at z;rcases z with z |z;exact absurd z (CG (by omega));exact absurd z (CG (Bn l (FN _ _)))⟩
   refine ⟨d.heap.objs.size+4,[d.heap.objs.size+4,d.heap.objs.size+2,d.heap.objs.size+3,d.heap.objs.size,d.heap.objs.size+1],_,_,i,rfl,I2,i9 x y _ _ _ _ _ t u ap (B0 l) (B0 (IJ g)),⟨P,zi,⟨_,_,zo⟩,x1,x2⟩,fun c v=>?_,q⟩;simp only [qa6,D9,or_false] at v;rcases v with rfl |rfl |rfl |rfl |rfl
   ·exact fr _ (FN _ _)
   ·exact fr _ (FN _ _)
   ·exact fr _ (FN _ _)
   ·exact fr _ (AK _)
   ·exact fr _ (FN _ _)
def Jt (x y:List D):List D:=List.zipWith (fun a b=>.tup [a,b]) x y
noncomputable def C4:D→HD→Option (List D×Bj)
 |.tup xs,_=>some (xs,[])
 |.loc l,h=>match h[l]? with
  |some (.lst xs)=>some (xs,[(l,xs)])
  |_=>none
 |_,_=>none
noncomputable def KG:List D→HD→Out (List D×Bj):=fun d h=>match d with
 |[x,y]=>match C4 x h,C4 y h with
  |some (a,s),some (b,c)=>.ok (Jt a b,s++c) h
  |_,_=>.stuck
 |_=>.stuck
def Fw (f:MA):MI:=fun a h=>(f a h).bind KG
def VW {x:List D} {s:Bj} (B:HR X.K m h H) (r:DV X.K m H d v) (e:C4 d h=some (x,s)):
 ∃k t,v=.ref t∧∀c g b,m <+:c→Kp H b→HR X.K c g b→(∀p∈s,g[p.1]?=some (.lst p.2))→∃i,El k X.K b t i∧DVs X.K c b x i:=by
 cases d with
 |tup z=>simp only [C4,Option.some.injEq,Prod.mk.injEq] at e;obtain ⟨rfl,rfl⟩:=e;simp only [DV] at r;obtain ⟨a,i,rfl,j,q⟩:=r;exact ⟨true,a,rfl,fun c g b n o f _=>⟨i,tq (j.keep o),q.keep n o⟩⟩
 |loc l=>
  simp only [C4] at e;split at e
  ·rename_i z C;simp only [Option.some.injEq,Prod.mk.injEq] at e;obtain ⟨rfl,rfl⟩:=e;simp only [DV] at r;obtain ⟨a,rfl,j⟩:=r;refine ⟨false,a,rfl,fun c g b n o f u=>?_⟩;obtain ⟨w,y,A⟩:=f.cells l _ a (u _ AX) (Hj n j);exact ⟨w,SqL.of y,A⟩
  ·cases e
 |_=>simp [C4] at e
def VX {x:List D} {s:Bj} (e:C4 d h=some (x,s)):∀p∈s,h[p.1]?=some (.lst p.2):=by
 cases d with
 |tup z=>simp only [C4,Option.some.injEq,Prod.mk.injEq] at e;obtain ⟨rfl,rfl⟩:=e;exact fun p a=>nomatch a
 |loc l=>
  simp only [C4] at e;split at e
  ·rename_i z b;simp only [Option.some.injEq,Prod.mk.injEq] at e;obtain ⟨rfl,rfl⟩:=e;intro p a;rw [qaG] at a;subst a;exact b
  ·cases e
 |_=>simp [C4] at e
def jd {kt:Nat} {a b:Expr} (hg:Gl X "zip") (hm:X.mg "zip"=none) (ha:CU X E [a,b] W) (hs:starEach [a,b] X.env=[(false,eval a X.env),(false,eval b X.env)]:=by rfl) (A:starEach [b] X.env=[(false,eval b X.env)]:=by rfl):
 DP X E (.Tuple l kt n) (.Call (.Name "zip" p) [a,b] [] pos) (Fw W):=
 Jd (jc hg hm ha hs A) fun σ H R ⟨m,ρ,h,hr,er,p⟩=>⟨m,ρ,h,hr,er,wa.bind p fun x Y v B C eo p1 k1 c Z q=>by
  clear eo;unfold KG at q;split at q
  ·rename_i d1 d2;split at q
   ·rename_i j s1 k s2 e1 e2;simp only [EO,DVs] at Z;obtain ⟨v1,w1,rfl,F,v2,w2,rfl,G,rfl⟩:=Z;obtain ⟨I,t,rfl,f1⟩:=VW c F e1;obtain ⟨J,u,rfl,f2⟩:=VW c G e2;obtain ⟨L,M,_⟩:=f1 B Y C (AI _) (.refl _) c (VX e1);obtain ⟨N,O,_⟩:=f2 B Y C (AI _) (.refl _) c (VX e2);refine ⟨I,J,t,u,L,N,rfl,M,O,q _ B C (AI _) (.refl _) c fun i m2 h2 H2 p2 k2 e o=>?_⟩;obtain ⟨w,s,r⟩:=f1 m2 h2 H2 p2 k2 e fun p d=>o p (G4 _ d);obtain ⟨f,g,z⟩:=f2 m2 h2 H2 p2 k2 e fun p d=>o p (BA _ d);have n1:=r.len;have n2:=z.len;have nl:(Jt j k).length=min j.length k.length:=by simp [Jt]
    refine ⟨fun P=>?_,fun P=>⟨w,f,s,g,by dsimp only at P;omega⟩⟩;dsimp only at P;have i1:i<j.length:=by omega
    have i2:i<k.length:=by omega
    refine ⟨⟨w,f,s,g,by omega,by omega⟩,fun y H3 Q=>?_⟩;obtain ⟨pp,vv,vv',d,ey,ev,S,eH⟩:=Q;subst ey eH;have g1:j[i]?=some j[i]:=Bl i1;have g2:k[i]?=some k[i]:=Bl i2;obtain ⟨c1,z1,T⟩:=r.get g1;obtain ⟨c2,z2,U⟩:=z.get g2;rw [ev w s] at z1;rw [S f g] at z2;cases z1;cases z2;refine ⟨.new d,e.new d,.tup [j[i],k[i]],?_,?_⟩
    ·simp [Jt,List.getElem?_zipWith,g1,g2]
    ·simp only [DV];exact ⟨pp,_,rfl,.inl CA,.cons (DV.keep (AI _) (.new d) T) (.cons (DV.keep (AI _) (.new d) U) .nil)⟩
   ·exact q.elim
  ·exact q.elim⟩
end
section
variable {ρ:Ag} {h:HD} {QI:(List D×Bj)→HD→Prop} {Q:D→HD→Prop} {QO:Option Int→HD→Prop} {QS:Fl×Ag→HD→Prop} {f fo fi fv:ME} {lo hi:MO} {fa:MA}
@[simp] theorem je:Wp (Dm fa ρ h) QI=Wp (fa ρ h) fun d a=>Wp (HC d a) QI:=by unfold Dm;rw [AL]
@[simp] theorem uV:Wp (Fw fa ρ h) QI=Wp (fa ρ h) fun d a=>Wp (KG d a) QI:=by unfold Fw;rw [AL]
@[simp] theorem uW:Wp (Ft ρ h) QO=QO none h:=id rfl
@[simp] theorem uX:Wp (EV f ρ h) QO=Wp (f ρ h) fun x a=>Wp (match x with
  |.int i=>(.ok (some i) a:Out (Option Int))
  |_=>.stuck) QO:=by unfold EV;rw [AL]<;>rfl
@[simp] theorem uY:Wp (KC fo fi fv ρ h) QS=Wp (fo ρ h) fun o a=>Wp (fi ρ a) fun i b=>Wp (Jq o i b) fun x c=>Wp (fv ρ c) fun y d=>Wp (Jp o i x y ρ d) QS:=by unfold KC;simp only [AL]
def VY {n:Nat} {e:Nat→D}:Fp ((List.range n).map e)=(List.range n).map fun k=>D.tup [.int ((k:Nat):Int),e k]:=by
 unfold Fp;apply G6
 ·simp
 ·intro i a b;simp
def FX {n:Nat} {e:Nat→D}:HC [.tup ((List.range n).map e)] h=.ok ((List.range n).map fun k=>D.tup [.int ((k:Nat):Int),e k],[]) h:=by simp only [HC,VY]
def Pq {n l:Nat} {e:Nat→D} (a:h[l]?=some (.lst ((List.range n).map e))):HC [.loc l] h=.ok ((List.range n).map fun k=>D.tup [.int ((k:Nat):Int),e k],[(l,(List.range n).map e)]) h:=by simp only [HC,a,VY]
def jf {n:Nat} {e a:Nat→D}:Jt ((List.range n).map e) ((List.range n).map a)=(List.range n).map fun k=>D.tup [e k,a k]:=by
 unfold Jt;apply G6
 ·simp
 ·intro i b c;simp
def KH {n:Nat} {e e':Nat→D} {s a:Bj} (b:C4 x h=some ((List.range n).map e,s)) (c:C4 y h=some ((List.range n).map e',a)):
 KG [x,y] h=.ok ((List.range n).map fun k=>D.tup [e k,e' k],s++a) h:=by
 simp only [KG,b,c,jf]
def HF {d:List D}:C4 (.tup d) h=some (d,[]):=rfl
def Pr {l:Nat} {d:List D} (e:h[l]?=some (.lst d)):C4 (.loc l) h=some (d,[(l,d)]):=by simp only [C4,e]
def Pt {l:Nat} {F:List Int→Int} {ns:List Int} (e:h[l]?=some (.lst (ns.map D.int))) (a:ns≠[]):Fv F (.loc l) h=.ok (.int (F ns)) h:=by simp only [Fv,e,BQ];rw [Hx (f:=GC∘D.int) (g:=id) (fun x _=>rfl)];simp only [List.map_id,if_neg a]
def Fx {l:Nat} {d:List D} (e:h[l]?=some (.lst d)):ES (.loc l) h=.ok (d,[(l,d)]) h:=by simp only [ES,BB,e,Mh]
def jg {l k:Nat} (e:h[l]?=some (.lst x)) (a:h[k]?=some (.lst y)):Ao (.loc l) (.loc k) h=BG (x++y) h:=by simp only [Ao,e,a]
def jh {x y:List D} (a:x.length+y.length≤sizeLine):Ao (.tup x) (.tup y) h=.ok (.tup (x++y)) h:=by simp only [Ao];rw [if_pos a]
def GJ {l:Nat} {d:List D} (e:h[l]?=some (.lst d)):Au (.loc l) h=.ok (.int d.length) h:=by simp only [Au,BB,e]
def VZ:∀n:Nat,(List.replicate n [a]).flatten=List.replicate n a
 |0=>rfl
 |n+1=>by rw [Gg,G5,VZ n];rfl
def Pv {l n:Nat} (e:h[l]?=some (.lst [a])) (b:n≤1000):DU (.loc l) (.int (n:Nat)) h=BG (List.replicate n a) h:=by
 have:(-(2^63):Int)≤(n:Int)∧(n:Int)<2^63:=by omega
 simp only [DU,e];rw [if_pos this];simp [VZ]
def ji {l k:Nat} (e:h[l]?=some (.lst a)) (b:a[k]?=some d):Jq (.loc l) (.int (k:Nat)) h=.ok d h:=by simp only [Jq,e];rw [if_pos (by omega)];simp [b]
def jj {l k:Nat} {d:List D} {a b:Int} (e:h[l]?=some (.lst d)) (hk:k<d.length):Jp (.loc l) (.int (k:Nat)) (.int a) (.int b) ρ h=.ok (.nx,ρ) (h.set l (.lst (d.set k (.int (a+b))))):=by simp only [Jp];exact Mo e hk
end
def Pw (c:List (Option Nat)) (i:MI) (s:MG) (t:MT) (f:ME):ME:=Ab (Ai BS) (Ac (Ax c i s t f) Af)
def Px (F:List Int→Int) (c:List (Option Nat)) (i:MI) (s:MG) (t:MT) (f:ME):ME:=Ab (Ai (Fv F)) (Ac (Ax c i s t f) Af)
section
variable {α:Type} {cs:List (Option Nat)} {it:MI} {sg:MG} {t:MT} {f:ME} {ρ:Ag} {h:HD} {src:Bj} {xs:List α} {φ:α→D} {F:List Int→Int}
@[simp] theorem uZ:Ab (Ai BS) (Ac (Ax cs it sg t f) Af) ρ h=Pw cs it sg t f ρ h:=rfl
@[simp] theorem u0:Ab (Ai (Fv F)) (Ac (Ax cs it sg t f) Af) ρ h=Px F cs it sg t f ρ h:=rfl
def Pz (n:α→Int) (b:α→Ag) (d:Bq (it ρ h) h (xs.map φ) src) (i:∀x∈xs,sg (φ x) (Cs cs ρ)=some (b x)) (j:∀x∈xs,∀a,Sm h a→Pu (f (b x) a) a (.int (n x))) (k:xs.length≤sizeLine):
 Pu (Pw cs it sg AH f ρ h) h (.int (xs.map n).sum):=by
 unfold Pu Pw;rw [CJ,BM];refine CV (fun _=>true) (fun x=>.int (n x)) b d k i (fun x c a s=>(.ok:Pu (.ok true a) a true)) (fun x c _ a s=>j x c a s) fun l a s e=>?_;rw [B8] at e;rw [B2];simp only [Ai,BS,BB,e,BQ];rw [Hx (f:=GC∘fun x=>D.int (n x)) (g:=n) (fun x _=>rfl)];exact ⟨rfl,s⟩
def jk (n:α→Int) (b:α→Ag) (g:Bq (it ρ h) h (xs.map φ) src) (i:∀x∈xs,sg (φ x) (Cs cs ρ)=some (b x)) (j:∀x∈xs,∀a,Sm h a→Pu (f (b x) a) a (.int (n x))) (k:xs.length≤sizeLine) (c:xs≠[]):
 Pu (Px F cs it sg AH f ρ h) h (.int (F (xs.map n))):=by
 unfold Pu Px;rw [CJ,BM];refine CV (fun _=>true) (fun x=>.int (n x)) b g k i (fun x d a s=>(.ok:Pu (.ok true a) a true)) (fun x d _ a s=>j x d a s) fun l a s e=>?_;rw [B8] at e;rw [B2,Kz,Pt (ns:=xs.map n) (by rw [e,BQ];rfl) (by simpa using c)];exact ⟨rfl,s⟩
def jl {l:Nat} {o:Out D} (e:o=.ok (.loc l) a) (s:Sm h a) (b:a[l]?=some (.lst d)):Bq (o.bind ES) h d [(l,d)]:=by subst e;simp only [Out.bind_ok,Fx b,Bq,AE];exact ⟨trivial,s,fun g c=>Di (c _ _ b)⟩
end
noncomputable def GK (t:MT) (g:MS):Nat→MS
 |0=>fun _ _=>.stuck
 |n+1=>fun e h=>(t e h).bind fun b f=>if b=true then (g e f).bind (fun x c=>match x with
   |(.nx,a)=>GK t g n a c
   |(.ct,a)=>GK t g n a c
   |(.bk,a)=>.ok (.nx,a) c
   |(.rt d,a)=>.ok (.rt d,a) c) else .ok (.nx,e) f
def HG (t:MT) (g:MS):MS:=GK t g 100000
section
variable {X:Cx} {E:XK}
def jm {i:List Stmt} {t:MT} (O:PassesOwn (model X.prog X.w) X.A X.env X.xe) (P:Ee X E c t) (Q:Df X E i g):Ex X E (.While c i [] pos) (HG t g):=by
 refine DO (bT O P Q) fun Dn u H B=>?_;obtain ⟨m,a,h,F,k,p⟩:=B;unfold HG at p;generalize (100000:Nat)=N at p;refine ⟨fun n u H=>∃m a h,HR X.K m h H∧ER X.K m H a u∧wg X.K m H E Dn (GK t g n a h),⟨N,m,a,h,F,k,p⟩,?_⟩;rintro n u H ⟨m,a,h,F,k,p⟩;cases n with
 |zero=>exact p.elim
 |succ n=>
  unfold GK at p;refine ⟨m,a,h,F,k,wg.bind p fun b I v R Y S J L l T q=>?_⟩;clear S;cases T;cases b with
  |false=>rw [if_neg BE] at q ⊢;exact (q.here l) u (k.keep J L)
  |true=>
   rw [if_pos rfl] at q ⊢;refine ⟨fun r w=>∃m a h,HR X.K m h w∧ER X.K m w a r∧wg X.K m w E Dn (GK t g n a h),fun r w z=>⟨n,IM _,z⟩,R,a,I,l,k.keep J L,?_⟩;cases o:g a I with
   |stuck=>rw [o] at q;exact q
   |err C fs G=>rw [o] at q;exact q
   |ok z G=>
    rw [o] at q;obtain ⟨U,s⟩:=z;intro x M y A f;cases U with
    |nx=>exact fun j e=>⟨x,s,G,f,e,wg.ahead y A q⟩
    |ct=>exact fun j e=>⟨x,s,G,f,e,wg.ahead y A q⟩
    |bk=>exact fun j e=>q x M y A f j e
    |rt d=>exact fun v W=>q x M y A f v W
end
def PB {t:MT} {g:MS} {Q:Fl×Ag→HD→Prop} (I:Nat→Ag→HD→Prop)
 (step:∀m a h,I m a h→Wp (t a h) fun b f=>if b=true then Wp (g a f) (B3 (fun j c=>∃e,e<m∧I e j c) Q) else Q (.nx,a) f):∀(n m:Nat) (a:Ag) (h:HD),m<n→I m a h→Wp (GK t g n a h) Q
 |0,m,a,h,l,_=>by omega
 |n+1,m,a,h,l,i=>by
  unfold GK;rw [AL];refine Wp.mono (step m a h i) fun b f w=>?_;cases b with
  |false=>rw [if_neg BE] at w ⊢;exact w
  |true=>
   rw [if_pos rfl] at w ⊢;rw [AL];refine Wp.mono w fun x c k=>?_;obtain ⟨o,j⟩:=x;cases o with
   |nx=>obtain ⟨e,f,c⟩:=k;exact PB I step n e _ _ (by omega) c
   |ct=>obtain ⟨e,f,c⟩:=k;exact PB I step n e _ _ (by omega) c
   |bk=>exact k
   |rt d=>exact k
def V0 {t:MT} {g:MS} {a:Ag} {h:HD} {Q:Fl×Ag→HD→Prop} (I:Nat→Ag→HD→Prop) (m:Nat) (f:m<100000) (i:I m a h)
 (step:∀m a h,I m a h→Wp (t a h) fun b d=>if b=true then Wp (g a d) (B3 (fun c j=>∃e,e<m∧I e c j) Q) else Q (.nx,a) d):Wp (HG t g a h) Q:=
 PB I step _ m a h f i
section
variable {X:Cx}
def V1:D→HD→Out D:=fun x h=>match x with
 |.loc l=>match h[l]? with
  |some (.lst d)=>match Bp (d.map Jh) with
   |some bs=>.ok (.bl (bs.any id)) h
   |none=>.stuck
  |_=>.stuck
 |_=>.stuck
end
def jn (c:List (Option Nat)) (i:MI) (s:MG) (t:MT) (f:ME):ME:=Ab (Ai V1) (Ac (Ax c i s t f) Af)
section
variable {α:Type} {cs:List (Option Nat)} {it:MI} {sg:MG} {t:MT} {f:ME} {ρ:Ag} {h:HD} {src:Bj} {xs:List α} {φ:α→D}
@[simp] theorem u4:Ab (Ai V1) (Ac (Ax cs it sg t f) Af) ρ h=jn cs it sg t f ρ h:=rfl
end
end LS
namespace LK
open LS
def A8 (n:Nat) (r:Nat→Bool):Int:=((List.range n).map fun j=>if r j then (1:Int) else 0).sum
def PC {a:Type} {f g:a→Int}:∀{xs:List a},(xs.map fun x=>f x+g x).sum=(xs.map f).sum+(xs.map g).sum
 |[]=>rfl
 |x::xs=>by simp only [Bk,G9,PC (xs:=xs)];omega
def PD {a:Type}:∀{xs:List a},(xs.map fun _=>(0:Int)).sum=0
 |[]=>rfl
 |x::xs=>by simp only [Bk,G9,PD (xs:=xs)];rfl
def V2 {a b:Type} {f:a→b→Int} {c:List b}:∀{xs:List a},(xs.map fun x=>(c.map fun y=>f x y).sum).sum=(c.map fun y=>(xs.map fun x=>f x y).sum).sum
 |[]=>by simp [PD]
 |x::xs=>by simp only [Bk,G9,V2 (xs:=xs)];rw [←PC]
def V3 {a:Type} {f g:a→Int}:∀{xs:List a},(∀x∈xs,f x≤g x)→(xs.map f).sum≤(xs.map g).sum
 |[],_=>Int.le_refl _
 |x::xs,h=>by simp only [Bk,G9];have:=h x AX;have:=V3 (xs:=xs) fun y b=>h y (A2 _ b);omega
def FY {b:Type} {f g:b→Int} {a:List b} (h:∀x∈a,f x=g x):(a.map f).sum=(a.map g).sum:=by rw [Cf h]
def HH {n:Nat} {r a:Nat→Bool} (h:∀i,i<n→r i=a i):A8 n r=A8 n a:=
 FY fun i b=>by rw [h i (by simpa using b)]
def jo {n:Nat} {r:Nat→Bool}:A8 n (fun i=>!r i)=n - A8 n r:=by
 have:A8 n (fun i=>!r i)+A8 n r=n:=by
  unfold A8;rw [←PC];have:∀m:Nat,((List.range m).map fun i=>(if (!r i)=true then (1:Int) else 0)+if r i=true then 1 else 0).sum=m:=fun m=>by
   induction m with
   |zero=>rfl
   |succ m a=>rw [Cp,Ca,Dw,a];cases e:r m<;>simp [e]
  exact this n
 omega
def Mw {n:Nat} {r:Nat→Bool}:0≤A8 n r∧A8 n r≤n:=by
 unfold A8
 induction n with
 |zero=>simp
 |succ n i=>rw [Cp,Ca,Dw];cases r n<;>simp<;>omega
def cc (H:Nat) (f:BF) (R:Nat→Bool) (j:Nat):Int:=A8 H fun i=>Bool.xor (f i j) (R i)
def Do (W:Nat) (H:Int) (c:Nat→Int) (C:Nat→Bool):Int:=((List.range W).map fun j=>if C j then H - c j else c j).sum
def DW (W:Nat) (H:Int) (c:Nat→Int):Int:=((List.range W).map fun j=>if H - c j<c j then H - c j else c j).sum
def TT (H W:Nat) (f:BF) (R C:Nat→Bool):Int:=Do W H (cc H f R) C
def PF {H:Nat} {f:BF} {R r:Nat→Bool} {j:Nat} (h:∀i,i<H→R i=r i):cc H f R j=cc H f r j:=HH fun i a=>by rw [h i a]
def jq {H W:Nat} {f:BF} {R r C c:Nat→Bool} (h:∀i,i<H→R i=r i) (a:∀j,j<W→C j=c j):TT H W f R C=TT H W f r c:=
 FY fun j b=>by rw [PF h,a j (by simpa using b)]
def Mx {H W:Nat} {f:BF} {R C:Nat→Bool}:TT H W f R C=((List.range W).map fun j=>A8 H fun i=>Bool.xor (f i j) (Bool.xor (R i) (C j))).sum:=by
 refine FY fun j _=>?_;cases C j
 ·simp only [Cz,if_false,Bool.xor_false];rfl
 ·simp only [if_true,cc];rw [←jo];exact HH fun i _=>by cases f i j<;>cases R i<;>rfl
def jr {H W:Nat} {f:BF} {R C:Nat→Bool}:((List.range H).map fun i=>A8 W fun j=>Bool.xor (f i j) (Bool.xor (R i) (C j))).sum=TT H W f R C:=by rw [Mx];exact V2
def V4 {H W:Nat} {f:BF} {R C:Nat→Bool}:TT W H (fun i j=>f j i) C R=TT H W f R C:=by rw [Mx,←jr];exact FY fun i _=>HH fun j _=>by cases f i j<;>cases R i<;>cases C j<;>rfl
def jt {H W:Nat} {f:BF} {R C:Nat→Bool}:TT H W f (fun i=>!R i) (fun j=>!C j)=TT H W f R C:=by rw [Mx,Mx];exact FY fun j _=>HH fun i _=>by cases f i j<;>cases R i<;>cases C j<;>rfl
def ju {W:Nat} {H:Int} {c:Nat→Int} {C:Nat→Bool}:DW W H c≤Do W H c C:=
 V3 fun j _=>by split<;>split<;>omega
def FZ (H:Int) (c:Nat→Int) (j:Nat):Bool:=decide (H<2*c j)
def V5 {W:Nat} {H:Int} {c:Nat→Int}:Do W H c (FZ H c)=DW W H c:=
 FY fun j _=>by
  unfold FZ
  by_cases h:H<2*c j
  ·rw [if_pos (by simpa using h),if_pos (by omega)]
  ·rw [if_neg (by simpa using h),if_neg (by omega)]
def ext (n:Nat) (R:Nat→Bool):Nat→Bool:=fun i=>if i=n then true else R i
def LL (s:Nat):Nat→List (Nat→Bool)
 |0=>[fun _=>false]
 |k+1=>LL s k++(LL s k).map (ext (s+k))
def HI {s:Nat}:∀{k:Nat} {R:Nat→Bool},R∈LL s k→∀i,i<s∨s+k≤i→R i=false
 |0,R,h,i,_=>by simp only [LL,qaG] at h;subst h;rfl
 |k+1,R,h,i,b=>by
  rcases qb1.mp h with z |z
  ·exact HI z i (by omega)
  ·obtain ⟨r,a,rfl⟩:=qaO.mp z;unfold ext;rw [if_neg (by omega)];exact HI a i (by omega)
def V6 {s:Nat} (R:Nat→Bool):∀k:Nat,∃r∈LL s k,∀i,s≤i→i<s+k→r i=R i
 |0=>⟨_,AX,fun i a b=>by omega⟩
 |k+1=>by
  obtain ⟨r,a,b⟩:=V6 R k;cases e:R (s+k) with
  |false=>
   refine ⟨r,G4 _ a,fun i c d=>?_⟩
   by_cases h:i=s+k
   ·rw [h,e];exact HI a _ (by omega)
   ·exact b i c (by omega)
  |true=>
   refine ⟨ext (s+k) r,BA _ (qaO.mpr ⟨r,a,rfl⟩),fun i c d=>?_⟩;unfold ext
   by_cases h:i=s+k
   ·rw [if_pos h,h,e]
   ·rw [if_neg h];exact b i c (by omega)
def KI {s:Nat}:∀k,(LL s k).length=2^k
 |0=>rfl
 |k+1=>by simp only [LL,DE,Ci,KI k];omega
def DX (H W:Nat) (f:BF):Int:=Fu ((LL 1 (H - 1)).map fun R=>DW W H (cc H f R))
def V7 {s k:Nat}:LL s k≠[]:=fun h=>by
 have:=KI (s:=s) k;rw [h] at this;have:0<2^k:=Nat.two_pow_pos k
 simp_all
def PH {H W:Nat} {f:BF}:∃R∈LL 1 (H - 1),DW W H (cc H f R)=DX H W f:=by have:=Po (ns:=(LL 1 (H - 1)).map fun R=>DW W H (cc H f R)) (by simp [V7]);obtain ⟨R,h,e⟩:=qaO.mp this;exact ⟨R,h,e⟩
def jv {H W:Nat} {f:BF} {R:Nat→Bool} (h:R∈LL 1 (H - 1)):DX H W f≤DW W H (cc H f R):=Pp (qaO.mpr ⟨R,h,rfl⟩)
def PJ {H W:Nat} {f:BF} (e:1≤H) (R C:Nat→Bool):DX H W f≤TT H W f R C:=by
 have k:∀R C:Nat→Bool,R 0=false→DX H W f≤TT H W f R C:=fun R C b=>by
  obtain ⟨r,a,c⟩:=V6 (s:=1) R (H - 1);have:∀i,i<H→R i=r i:=fun i g=>by
   by_cases d:i=0
   ·rw [d,b];exact (HI a 0 (by omega)).symm
   ·exact (c i (by omega) (by omega)).symm
  rw [jq this (fun _ _=>rfl)];exact Int.le_trans (jv a) ju
 cases h:R 0 with
 |false=>exact k R C h
 |true=>rw [←jt];exact k _ _ (by simp [h])
def V8 {H W:Nat} (f:BF):∃R C,TT H W f R C=DX H W f:=by obtain ⟨R,_,e⟩:=PH (H:=H) (W:=W) (f:=f);exact ⟨R,FZ H (cc H f R),by rw [←e];exact V5⟩
def jw {H W:Nat} {f:BF} (h:1≤H) (a:1≤W):DX W H (fun i j=>f j i)=DX H W f:=by
 refine Int.le_antisymm ?_ ?_
 ·obtain ⟨R,C,e⟩:=V8 (H:=H) (W:=W) f;rw [←e,←V4];exact PJ a _ _
 ·obtain ⟨C,R,e⟩:=V8 (H:=W) (W:=H) (fun i j=>f j i);rw [←e,V4];exact PJ h _ _
def A5 (L:List Int) (k:Int):Int:=(L.map fun x=>if x=k then (1:Int) else 0).sum
def hk (H W:Nat) (f:BF) (k:Int) (R:Nat→Bool):Int:=A5 ((LL 0 W).map (TT H W f R)) k
def NN (H W:Nat) (f:BF) (k:Int):Int:=((LL 1 (H - 1)).map (hk H W f k)).sum
def jx {H W:Nat} {f:BF} {k:Int} {R:Nat→Bool}:hk H W f k R=((LL 0 W).map fun C=>if TT H W f R C=k then (1:Int) else 0).sum:=by unfold hk A5;rw [BQ];rfl
def jy {L:List Int} {k:Int} (h:k∉L):A5 L k=0:=by
 unfold A5;rw [show L.map (fun x=>if x=k then (1:Int) else 0)=L.map fun _=>(0:Int) from Cf fun x a=>by rw [if_neg];intro z;subst z;exact h a]
 exact PD
end LK
namespace LS
open PySem PySem.Spec PyProof.Rows L2 PySem.W
section
structure EC (K:Frag) (C:Addr):Prop where
 ga:findIn K (.ref C) "__getattribute__"=some (some (.builtin "BaseException.__getattribute__"))
 gt:findIn K (.ref C) "__getattr__"=some none
 cl:(clsIn K C).isSome=true
 ac:findIn K (.ref C) "__class__"=some (some (.builtin "object.__class__"))
 sg:specialIn K (.builtin "object.__class__") "__get__"=some (some (.builtin "getset_descriptor.__get__"))
 tk:takesIn K (.builtin "object.__class__")=some true
 mo:mroIn K C (.type "object")=some true
 mb:mroIn K C (.type "BaseException")=some true
section
variable {prog:Program} {w:World} {A:Around} {E:Value→Shared→Prop} {s:Shared} {K:Frag} {x C:Addr} {ox:Obj} {od:Option Obj}
def TyAt (x C:Addr) (h:Heap):Prop:=∃o,h.get? x=some o∧o.cls=.ref C
def TyAt.type (t:TyAt x C h):Looks M h (typeOf (.ref x)) (.ref C):=by obtain ⟨o,a,b⟩:=t;exact b ▸ (Looks.ld a).andThen .now
def jz (c:EC K C) (X:K.In h):Looks M h (Builtin.ObjectAttr.find (.ref x) (.ref C) "__class__") (.bind (.builtin "getset_descriptor.__get__") (.builtin "object.__class__")):=by have L:=looks_findIn (M:=M) X c.ac;have l:Looks M h (Builtin.ObjectAttr.getOf (some (.builtin "object.__class__"))) (some (.builtin "getset_descriptor.__get__")):=looks_specialIn X c.sg;have a:=looks_takesIn (M:=M) X c.tk;refine L.andThen (l.andThen ?_);exact (show Looks M h (Builtin.ObjectAttr.dataDescriptor? (some (.builtin "object.__class__")) (some (.builtin "getset_descriptor.__get__"))) (some (.builtin "getset_descriptor.__get__",.builtin "object.__class__")) from a.andThen .now).andThen (Looks.tag .now)
def jA {R:Result→Shared→Prop} (X:K.In s.heap) (I:TyAt x C s.heap) (b:mroIn K C (.type "object")=some true)
 (h:R (.ok (.ret (.ref C))) s):codeAny (model prog w) A (.call (.builtin "getset_descriptor.__get__") ⟨[.builtin "object.__class__",.ref x,a],[]⟩) R s:=by
 obtain ⟨c,g,d,t,os⟩:=s;have L:=I.type (M:=model prog w);have l:=looks_mroIn (M:=model prog w) X b;refine codeAny_call_builtin KF.slot_gs.plain KF.entry_gs (KF.slot_gs.check _ _ _ _ _ _ _ _ KF.type_class (KF.args_gs _ _ _) ?_);unfold Builtin.«getset_descriptor.__get__» Builtin.Getset_descriptor.descrGet;rw [dga_obj];refine Aj (AD ?_);unfold Builtin.Getset_descriptor.descrGetter Builtin.Getset_descriptor.descrCheckInstance Builtin.Getset_descriptor.descrNameAndClass isInstance;simp only [KF.owner_class]
 repeat lk
 refine ⟨Code.quiet_builtin _ (by decide +kernel),codeAny_builtin KF.entry_class ?_⟩;unfold Builtin.«object.__class__» shownTypeOf
 repeat lk
 exact h
def jB {Q:Option Value→Shared→Prop} (c:EC K C) (X:K.In s.heap) (I:TyAt x C s.heap) (h:Q (some (.ref C)) {s with toks:=s.toks+1}):wpAny (model prog w) A (getAttr? (.ref x) "__class__") Q E s:=by
 obtain ⟨f,g,d,t,os⟩:=s;have L:=I.type (M:=model prog w);have l:=looks_findIn (M:=model prog w) X c.ga;have i:=looks_findIn (M:=model prog w) X c.gt;have k:=jz (M:=model prog w) (x:=x) c X;have j:=looks_mroIn (M:=model prog w) X c.mb;have m:=F.args_bexc_ga (.ref x) (.str "__class__" t);have hk:builtinKind "BaseException.__getattribute__"=some .slot:=by decide +kernel
 have a:splitId "BaseException.__getattribute__"=some ("BaseException","__getattribute__"):=by decide +kernel
 have b:(Value.builtin "BaseException.__getattribute__"==Value.builtin "object.__getattribute__")=false:=by decide +kernel
 have e:(onTheHeap (Value.ref C)&&Value.builtin "BaseException.__getattribute__"==Value.builtin "object.__getattribute__")=false:=by rw [b];rfl
 unfold getAttr? getAttrBy? getAttrBy;refine Aj (wpAny_mkText (Aj (wpAny_attempt (DN (Aj (L.at (Aj (l.at ?_))))))));dsimp only;rw [e];simp only [Cz,if_false];unfold getAttrByItsOwn hookBefore;refine Aj ?_
 show wpAny _ _ (typeLookup (.ref C) "__getattr__") _ _ _
 refine i.at ?_;refine Aj (wpAny_attempt (DN ?_));unfold callGetattribute boundAndCalled;simp only [Bool.false_and,Cz,if_false];rw [PySem.F.attr_ValueError.ga.bind (.ref x)];refine Aj (AD (wpAny_call (codeAny_call_builtin PySem.F.attr_ValueError.ga.plain F.entry_bexc_ga ?_)));simp only [checkBuiltinCall,hk,a];refine Aj ?_;unfold isInstance;refine Aj (L.at (j.at ?_))
 wp_step
 unfold Builtin.«object.__getattribute__»
 repeat lk
 refine wpAny_run (jA (s:=⟨f,g,d,t+1,os⟩) X I c.mo ?_) (by intro z;cases z);refine AD (AD ?_);exact handed_on rfl (AD h)
def jC (c:EC K C):KitX K (.ref x) (.ref C) (TyAt x C) where
 ty:=fun _ _ _ I=>I.type
 it:=fun _ _ X _=>by
  obtain ⟨b,a⟩:=qbX.mp c.cl;unfold clsIn at a;split at a
  ·rename_i j l d f g;intro o Q p r k q;unfold isType loadHead;exact Aj (wpAny_loadPart (k _ _ (X _ _ g)) (AD q))
  ·cases a
 ne:=fun h t u m n v X i=>by
  obtain ⟨b,a⟩:=qbX.mp c.cl;refine Bool.eq_false_iff.mpr fun q=>?_;have e:C=t:=Value.ref.inj (beq_iff_eq.mp q);subst e;unfold clsIn at a;split at a
  ·rename_i j l d f g;have z:=(X _ _ g).symm.trans i;cases z
  ·cases a
 ca:=fun X I k=>jB c X I k
end
def jD {K:Frag} (h:Oe K C=true):EC K C:=by unfold Oe at h;simp only [CP,beq_iff_eq] at h;obtain ⟨⟨⟨⟨⟨⟨⟨a,b⟩,c⟩,d⟩,e⟩,f⟩,g⟩,i⟩:=h;exact ⟨a,b,c,d,e,f,g,i⟩
def V9 {K:Frag} (h:E5 K n=some C):nsIn K mainGlobals n=some (some (.ref C)):=by
 unfold E5 at h;split at h
 ·rename_i e;cases h;exact e
 ·cases h
structure ET (K:Frag) (n:Str) (C:Addr):Prop where
 ec:EC K C
 ve:kitOne K (.ref C) (.type "ValueError")=some true
 at_:n≠"TooMany"→Pl K C Lz "ValueError.__new__"
 sw:∀S,nsIn K mainGlobals "SwitchError"=some (some (.ref S))→exmOne K (.ref C) (.ref S)=some true
 sub:∀n' C',n'∈wo→nsIn K mainGlobals n'=some (some (.ref C'))→kitOne K (.ref C) (.ref C')=some (B6 n n')
def My {K:Frag} (h:wU K=true) {n:Str} {C:Addr} (g:n∈wo) (i:nsIn K mainGlobals n=some (some (.ref C))):ET K n C:=by
 unfold wU at h;split at h
 ·rename_i S j;have a:=qaT.mp h n g;have e:E5 K n=some C:=by unfold E5;rw [i]
  rw [e] at a;have a:Of K n C S=true:=a;unfold Of at a;simp only [CP,beq_iff_eq,Bool.or_eq_true] at a;obtain ⟨⟨⟨⟨k,l⟩,m⟩,o⟩,p⟩:=a;refine ⟨jD k,l,fun z=>iL (m.resolve_left z),fun s b=>?_,fun f q c d=>?_⟩
  ·have:=V9 j;rw [this] at b;cases b;exact o
  ·have z:=qaT.mp p f c;have r:E5 K f=some q:=by unfold E5;rw [d]
   rw [r] at z;exact beq_iff_eq.mp z
 ·cases h
section
variable {X:Cx} {E:XK}
def jE (d:Gl X x) (b:nsIn X.K mainGlobals x=some (some (.ref a))) (e:(x==("__debug__":Str))=false:=by decide):Ev X E (.Name x pos) (mC (.glo x)):=
 fun c s g H Q I z=>by obtain ⟨m,i,h,f,j,p⟩:=z;exact (Gj I d (mg_of I.mod.kin I.mod.glob b) ⟨.ref a,H,I,rfl,p (.ref a) m H (AI _) (.refl _) f (by simp only [rD,DV];exact ⟨a,rfl,b⟩)⟩ e)
def Em {a:Type}:Out a→Prop
 |.err _ _ _=>False
 |_=>True
def wa.noE {b c:Type} {K:Frag} {R:List Addr→Hp→b→c→Prop} {Q:c→Hp→Prop} {o:Out b} (n:Em o) (h:wa K R m H E Q o):wa K R m H e Q o:=by
 cases o with
 |ok a d=>exact h
 |err C fs d=>exact False.elim n
 |stuck=>exact h
def jF {F:TF} (c:∀d h,Em (F d h))
 (e:∀(p:PQ) (s:Shared) (a:L2.St) (H:Hp) (m:List Addr) (h:HD) (d:List D) (v:List V) (u:List Value) (Q:VK),Inv X p a H s→HR X.K m h H→DVs X.K m H d v→Vals v u→wa X.K (rD X.K) m H E0 Q (F d h)→
  wpAny (model X.prog X.w) X.A (call f u) (EP X p a Q) X.xe s):C1 X f F:=
 ⟨fun v H Q=>∃m h d,HR X.K m h H∧DVs X.K m H d v∧wa X.K (rD X.K) m H E0 Q (F d h),fun p s a H v u Q I r z=>by obtain ⟨m,h,d,b,rd,q⟩:=z;exact (e p s a H m h d v u Q I b rd r q),fun m H h E d v Q b rd q=>⟨m,h,d,b,rd,wa.noE (c d h) q⟩⟩
noncomputable def AZ:D→D→HD→Out D:=fun x y h=>match x with
 |.exc n _=>(match y with
  |.glo a=>if n∈wo∧a∈wo then .ok (.bl (B6 n a)) h else .stuck
  |.ty T=>if n∈wo∧T="ValueError" then .ok (.bl true) h else .stuck
  |_=>.stuck)
 |.edic=>(match y with
  |.ty T=>(match Mj "dict" T with
   |some b=>.ok (.bl b) h
   |none=>.stuck)
  |_=>.stuck)
 |_=>B1 x y h
def jG (p:PQ) (s:Shared) (c:L2.St) (H:Hp) (m:List Addr) (h:HD) (x y:D) (v d:V) (u a:Value) (Q:VK) (I:Inv X p c H s) (e:HR X.K m h H) (g:DV X.K m H x v) (f:DV X.K m H y d) (r:RelV v u) (i:RelV d a)
 (q:wa X.K (rD X.K) m H E0 Q (B1 x y h)):wpAny (model X.prog X.w) X.A (call (.builtin "isinstance") [u,a]) (EP X p c Q) X.xe s:=by
 unfold B1 at q;split at q
 ·rename_i T t j;split at q
  ·rename_i b k;simp only [DV] at f;subst f;cases (show a=Value.type T from i);exact dk I r (g0 e g j) (Vr k) fun l=>⟨.bl b,H,I.tok _,rfl,Bb e q (by simp [DV])⟩
  ·exact q.elim
 ·exact q.elim
def jH (J:wU X.K=true):C1 X (.builtin "isinstance") (Bo AZ):=by
 refine jF (fun P h=>?_) fun p s L H m h P vs us Q I i rd r q=>Mg rd q fun x y v R S g d q=>?_
 ·unfold Bo AZ B1
  repeat' split
  all_goals trivial
 ·subst S;obtain ⟨u,j,rfl,w,l⟩:=Km r;unfold AZ at q;split at q
  ·rename_i n fs;simp only [DV] at g;obtain ⟨a,C,U,rfl,M,A,_⟩:=g;cases (show u=Value.ref a from w);obtain ⟨⟨o,ws,B,F,W,N⟩,_⟩:=(show wu X.prog X.w H s.heap a (.ext (Gq C U a)) from I.hok a _ A)
   have k:∀(c:Value) (b:Bool),EC X.K C→kitOne X.K (.ref C) c=some b→Q (.bl b) H→wpAny (model X.prog X.w) X.A (call (.builtin "isinstance") [.ref a,c]) (EP X p L Q) X.xe s:=by intro c b Y e q;exact kia_one (jC Y) I.kIn ⟨o,B,F⟩ e (fun z=>nomatch z) fun Z=>⟨.bl b,H,I.tok _,rfl,q⟩
   split at q
   ·rename_i n';split at q
    ·rename_i f;simp only [DV] at d;obtain ⟨O,rfl,G⟩:=d;cases (show j=Value.ref O from l);have t:=My J f.1 M;exact k _ _ t.ec (t.sub n' O f.2 G) (Bb i q (by simp [DV]))
    ·exact q.elim
   ·rename_i T;split at q
    ·rename_i f;simp only [DV] at d;subst d;cases (show j=Value.type T from l);obtain ⟨f,rfl⟩:=f;have t:=My J f M;exact k _ _ t.ec t.ve (Bb i q (by simp [DV]))
    ·exact q.elim
   ·exact q.elim
  ·split at q
   ·rename_i T;split at q
    ·rename_i b eb;simp only [DV] at g d;obtain ⟨a,rfl,A⟩:=g;subst d;cases (show u=Value.ref a from w);cases (show j=Value.type T from l);obtain ⟨⟨_,o,ep,B,hx,hd⟩,_⟩:=(show wu X.prog X.w H s.heap a (.ext (UV a)) from I.hok a _ A)
     exact kia_one kitx_dict I.kIn ⟨o,B,hx.1⟩ (Vr eb) (fun z=>nomatch z) fun Z=>⟨.bl b,H,I.tok _,rfl,Bb i q (by simp [DV])⟩
    ·exact q.elim
   ·exact q.elim
  ·exact jG p s L H m h x y v R u j Q I i g d w l q
end
section
variable {X:Cx} {E:XK}
def Ck (c:D→HD→Out D) (o:D→D→HD→Out D) (f g:ME):ME:=fun a h=>((f a h).bind c).bind fun x b=>(g a b).bind fun y d=>o x y d
def Wa (X:Cx) (T:String) (x:V) (H:Hp):Prop:=∀(p:PQ) (b:L2.St) (s:Shared) (u:Value),Inv X p b H s→RelV x u→s.TypeIs u T∧∀a,u=.ref a→∃o,s.heap.get? a=some o∧o.dict=none
def jI (X:Cx) (T:String) (r:V→List V→Hp→VK→Prop) (to:TE) (t:TA):TE:=fun a H Q=>to a H fun x h=>Wa X T x h∧t a h fun b c=>r x b c Q
def jJ {o e:Expr} {d c:Pos} {T id:String} {r:V→List V→Hp→VK→Prop} (y:PlainAttrs T) (i:Slot T name id) (l:typeOf (.builtin id)=pure (.type "method_descriptor")) (A:L3 X id r) (B:PE X o to) (C:PA X (e::b) t)
 (f:attributeBase o name X.env (eval o X.env)=eval o X.env:=by rfl)
 (j:((backTo c (starEach (e::b) X.env)).all (fun x=>!x.1)&&(backToKw c (keywordEach [] X.env)).all (fun x=>x.1.isSome)
  &&decide ((e::b).length+([]:List Keyword).length+(if ([]:List Keyword).isEmpty then 0 else 1)<30))=true:=by rfl)
 (g:(d.endLine==c.line)=true:=by rfl) (F:starEach (e::b) X.env=(false,eval e X.env)::starEach b X.env:=by rfl) (a:(backTo c (starEach b X.env)).any (·.1)=false:=by rfl):
 PE X (.Call (.Attribute o name d) (e::b) [] c) (jI X T r to t):=by
 intro p s k H Q I h;refine wpAny_Call_method_late f j g rfl (Ap (B p s k H _ I h) fun v n z=>?_);obtain ⟨x,G,q,u,J,L⟩:=z;obtain ⟨M,N⟩:=J p k n v q u;refine ⟨T,id,y,i,l,M,N,?_⟩;have w:=C c p n k G _ q L;rw [F] at w ⊢;refine Calls.callWith_builtin (by show (false||(backTo c (starEach b X.env)).any (·.1))=false;rw [a]<;>rfl) (Calls.evalArgs_plain ?_);exact Ap w fun O P m=>by obtain ⟨R,S,U,W,Y⟩:=m;exact (A p P k S x R v O Q U u W Y)
structure PK (X:Cx) (T:String) (chk:D→HD→Out D):Prop where
 two:∀x h,chk x h=.ok x h∨chk x h=.stuck
 ty:∀m H h x v,HR X.K m h H→DV X.K m H x v→chk x h=.ok x h→Wa X T v H
def GL (X:Cx) (id:String) (o:D→D→HD→Out D):Prop:=
 ∀(p:PQ) (s:Shared) (a:L2.St) (H:Hp) (m:List Addr) (h:HD) (x y:D) (v b:V) (u c:Value) (Q:VK),Inv X p a H s→HR X.K m h H→DV X.K m H x v→DV X.K m H y b→RelV v u→RelV b c→wa X.K (rD X.K) m H E0 Q (o x y h)→
  wpAny (model X.prog X.w) X.A (call (.builtin id) [u,c]) (EP X p a Q) X.xe s
def Ju {T id:String} {k:D→HD→Out D} {l:D→D→HD→Out D} {b c:Pos} (pa:PlainAttrs T) (n:Slot T name id) (M:typeOf (.builtin id)=pure (.type "method_descriptor"))
 (Z:PK X T k) (hn:∀x y h,Em (l x y h)) (hm:GL X id l) (ho:Ev X E o f) (he:Ev X E e g)
 (d:attributeBase o name X.env (eval o X.env)=eval o X.env:=by rfl)
 (t:((backTo c (starEach [e] X.env)).all (fun x=>!x.1)&&(backToKw c (keywordEach [] X.env)).all (fun x=>x.1.isSome)
  &&decide ([e].length+([]:List Keyword).length+(if ([]:List Keyword).isEmpty then 0 else 1)<30))=true:=by rfl)
 (i:(b.endLine==c.line)=true:=by rfl) (hs:starEach [e] X.env=(false,eval e X.env)::starEach [] X.env:=by rfl) (a:(backTo c (starEach [] X.env)).any (·.1)=false:=by rfl):
 Ev X E (.Call (.Attribute o name b) [e] [] c) (Ck k l f g):=by
 have z:L3 X id (fun v N H Q=>∃m h x y j,N=[j]∧HR X.K m h H∧DV X.K m H x v∧DV X.K m H y j∧wa X.K (rD X.K) m H E0 Q (l x y h)):=by rintro A s σ H v N u us Q I r rs ⟨m,h,x,y,j,ev,z,rx,O,q⟩;subst ev;obtain ⟨uy,rfl,F⟩:=Ec rs;exact hm A s σ H m h x y v j u uy Q I z rx O r F q
 refine BR (jJ pa n M z ho (Ja he Kr hs) d t i hs a) fun σ H Q P=>?_;obtain ⟨m,R,h,z,er,p⟩:=P;refine ⟨m,R,h,z,er,?_⟩;unfold Ck at p;rw [Out.bind_assoc] at p;refine wa.bind p fun x G v S H1 U p1 k1 B r1 C=>?_;clear U;rcases Z.two x G with J |J
 ·rw [J] at C;simp only [Out.bind_ok] at C;refine ⟨Z.ty S H1 G x v B r1 J,S,R,G,B,er.keep p1 k1,?_⟩;have q2:wa X.K (rD X.K) S H1 E Q ((Ac g Af R G).bind fun ys L=>match ys with
   |[y]=>l x y L
   |_=>.stuck):=by
   unfold Ac Af;rw [Out.bind_assoc];exact C
  refine wa.bind q2 fun ys L N m2 H2 U p2 k2 W F Y=>?_;clear U;split at Y
  ·rename_i y;simp only [EO,DVs] at F;obtain ⟨j,w,rfl,O,rfl⟩:=F;exact ⟨m2,L,x,y,j,rfl,W,DV.keep p2 k2 r1,O,wa.noE (hn x y L) Y⟩
  ·exact Y.elim
 ·rw [J] at C;exact C.elim
def PL:PK X "list" CI where
 two:=fun x h=>by
  unfold CI;split
  ·split
   ·exact .inl rfl
   ·exact .inr rfl
  ·exact .inr rfl
 ty:=fun m H h x v b r e=>by
  unfold CI at e;split at e
  ·rename_i l;split at e
   ·rename_i i c;simp only [DV] at r;obtain ⟨a,rfl,d⟩:=r;obtain ⟨w,f,j⟩:=b.cells l _ a c d;exact fun p k s u I g=>L5 I g (.inl ⟨rfl,w,SqL.of f⟩)
   ·cases e
  ·cases e
def Jv (x:V) (a:List V):Nat:=a.countP fun y=>EN y x
def Wb:∀{a:List V} {b:List Value},Vals a b→a.all Ed=true→b.countP (DH x)=Jv x a
 |_,_,.nil,_=>rfl
 |y::a,u::b,.cons r t,f=>by rw [List.all_cons,CP] at f;unfold Jv;rw [List.countP_cons,List.countP_cons,L4 r f.1,Wb t f.2];rfl
def KJ:D→D→HD→Out D:=fun x y h=>match BB x h with
 |none=>.stuck
 |some d=>match C2 y,Bp (d.map C2) with
  |some v,some a=>.ok (.int (Jv v a)) h
  |_,_=>.stuck
def jK (x y:D) (h:HD):Em (KJ x y h):=by
 unfold KJ
 repeat' split
 all_goals trivial
def HJ:D→D→HD→Out D:=fun x y h=>(CI x h).bind fun _ _=>KJ x y h
def jL:GL X "list.count" HJ:=by
 intro p s S H m h x y v c u o Q I d f t r A q;unfold HJ at q;rcases (PL (X:=X)).two x h with b |b
 ·rw [b] at q;simp only [Out.bind_ok] at q;unfold CI at b;split at b
  ·rename_i l;split at b
   ·rename_i T g;unfold KJ BB at q;simp only [g] at q;split at q
    ·rename_i w U B C;simp only [DV] at f;obtain ⟨a,rfl,G⟩:=f;cases (show u=Value.ref a from r);obtain ⟨J,L,M⟩:=d.cells l _ a g G;obtain ⟨N,O⟩:=Me t B;obtain ⟨P,j⟩:=Mf M C;subst N P;obtain ⟨z,i,n,k,W,e⟩:=I.lstM L;refine call_meets F.slot_list_count ⟨_,e,rfl⟩ F.entry_list_count (F.args_list_count_2 _ _) (PySem.SeqAt.list_countAt a i.toArray n none #[] o (DH c)) ⟨e,fun w R=>Kn A O k j w (by simpa using R),?_⟩;refine ⟨.int _,H,I.tok _,⟨_,rfl⟩,?_⟩;rw [show (i.toArray.toList.countP (DH c))=Jv c J by rw [←Wb k j]];exact Bb d q (by simp [DV])
    ·exact q.elim
   ·cases b
  ·cases b
 ·rw [b] at q;exact q.elim
def Mz (x:V) (a:List V):Option Nat:=a.findIdx? fun y=>EN y x
noncomputable def HK:D→D→HD→Out D:=fun x y h=>match x with
 |.loc l=>(match h[l]? with
  |some (.lst d)=>(match C2 y,Bp (d.map C2) with
   |some v,some a=>(match Mz v a with
    |some j=>.ok (.int j) h
    |none=>.stuck)
   |_,_=>.stuck)
  |_=>.stuck)
 |_=>.stuck
def jM (x y:D) (h:HD):Em (HK x y h):=by
 unfold HK
 repeat' split
 all_goals trivial
def jN (x y:D) (h:HD):Em (HJ x y h):=by
 unfold HJ;rcases (show CI x h=.ok x h∨CI x h=.stuck by
  unfold CI;split
  ·split
   ·exact .inl rfl
   ·exact .inr rfl
  ·exact .inr rfl) with e |e
 ·rw [e];exact jK x y h
 ·rw [e];trivial
def Wc {a:List V} {b:List Value} (r:Vals a b) {x:V} (f:a.all Ed=true) {j:Nat} (h:j<b.length):DH x b[j]=EN (a[j]'(by rw [r.length];exact h)) x:=by
 have c:j<a.length:=by rw [r.length];exact h
 obtain ⟨u,e,d⟩:=r.get (Bl c);rw [Bl h] at e;cases e;exact L4 d (qaT.mp f _ (J9 c))
def jO:GL X "list.index" HK:=by
 intro C s σ H m h x y v c u L Q I G J M r N q;unfold HK at q;split at q
 ·rename_i l;split at q
  ·rename_i ds O;split at q
   ·rename_i w ws P R;split at q
    ·rename_i j d;simp only [DV] at J;obtain ⟨a,rfl,S⟩:=J;cases (show u=Value.ref a from r);obtain ⟨vs,T,U⟩:=G.cells l _ a O S;obtain ⟨W,Y⟩:=Me M P;obtain ⟨Z,f⟩:=Mf U R;subst W Z;obtain ⟨z,i,n,g,hl,e⟩:=I.lstM T;unfold Mz at d;rw [List.findIdx?_eq_some_iff_getElem] at d;obtain ⟨hj,o,p⟩:=d;have b:j<i.length:=by rw [←hl];exact hj
     have t:(j:Int)<2^63 - 1:=by have:=Gn;omega
     refine call_meets F.slot_list_index ⟨_,e,rfl⟩ F.entry_list_index (F.args_list_index_2 _ _) (PySem.SeqAt.list_indexAt a i.toArray n none #[] L (DH c) j (by simpa using b) t ?_ ?_) ⟨e,fun w hw=>Kn N Y g f w (by simpa using hw),?_⟩
     ·have:=Wc g f (x:=c) b;simp only [List.getElem_toArray];rw [this];exact o
     ·intro k hk A;have B:k<i.length:=by simpa using hk
      have:=Wc g f (x:=c) B;simp only [List.getElem_toArray];rw [this];simpa using p k A
     ·exact ⟨.int _,H,I.tok _,⟨_,rfl⟩,Bb G q (by simp [DV])⟩
    ·exact q.elim
   ·exact q.elim
  ·exact q.elim
 ·exact q.elim
end
variable {g:Str}
def HR.tab {K:Frag} {H j:Hp} {u:Nat} (r:HR K m h H) (k:Kp H j) (s:∀b,b≠P→H b≠none→j b=H b) (t:wM K g j P) (tt:wM K g H P) (v:h[u]?=some (.tabn g)) (x:m[u]?=some P):HR K m h j:=by
 refine ⟨r.len,r.nd,fun l c a e q=>?_⟩;have A:a∈m:=FM q;have p:H a≠none:=r.mem A;have:=r.cells l c a e q;cases c with
 |lst N=>
  obtain ⟨B,d,i⟩:=this;have f:a≠P:=by rintro rfl;obtain ⟨_,y,z,_⟩:=tt;rw [z] at d;cases d
  exact ⟨B,by rw [s a f p];exact d,i.keep (AI _) k⟩
 |ins n fs=>
  obtain ⟨C,E,F,G,d,i⟩:=this;have f:a≠P:=by rintro rfl;obtain ⟨_,y,z,_⟩:=tt;rw [z] at d;cases d
  exact ⟨C,E,F,G,by rw [s a f p];exact d,i.keep (AI _) k⟩
 |tabn O=>
  by_cases f:a=P
  ·subst f;have I:l=u:=by obtain ⟨Q,d⟩:=qa1.mp q;obtain ⟨R,i⟩:=qa1.mp x;exact (List.getElem_inj r.nd).mp (d.trans i.symm)
   subst I;rw [v] at e;cases e;exact t
  ·exact wM.keep this k (s a f p)
 |dic J L=>
  obtain ⟨M,d,i⟩:=this;have f:a≠P:=by
   rintro rfl;obtain ⟨_,y,z,_⟩:=tt;cases J with
   |true=>obtain ⟨o,q⟩:=d;rw [z] at q;cases q
   |false=>exact absurd (z.symm.trans d) (by intro w;cases w)
  exact ⟨M,d.same (s a f p),i.keep (AI _) k⟩
structure LamX (g:Str) (X:Cx) (c P:Addr):Prop where
 code:X.env.code=.ref c
 tp:tabP X.K g=some (c,P)
 hd:codeHdIn X.K c P=true
 qual:X.env.qual=UU g
 bm:∃bm o,X.mg "__builtins__"=some (.ref bm)∧bm≠builtinsNs∧X.base.get? bm=some o∧o.cls=.type "module"∧o.dict=some builtinsNs∧o.data=.plain
section
variable {X:Cx} {E:Value→Shared→Prop} {c P:Addr} {pins:PQ} {σ:L2.St} {H:Hp} {s:Shared}
def LamX.builtins (L:LamX g X c P) (I:Inv X pins σ H s) (t:wM X.K g H P):s.heap.BuiltinsAt X.mg P:=by
 obtain ⟨b,o,d,f,h,i,j,a⟩:=L.bm;obtain ⟨e,n⟩:=I.bs b o h;refine ⟨b,o,d,f,fun z=>?_,fun z=>?_,e,i,j,a⟩
 ·obtain ⟨m,p,r,k,l,_⟩:=I.mod.glob;rw [z,k] at h;cases h;rw [l] at a;cases a
 ·obtain ⟨_,u,q,_⟩:=t;rw [z,q] at n;cases n
end
end
section
variable {g:Str}
noncomputable def Wd (g:Str) (P:Program) (w:World) (K:Frag) (m:Str→Option Value) (d:Heap) (N:List Str) (b:Scope) (a:Addr) (f:Value) (h:List (Str×Addr)) (A:Around) (o:List Env) (s:Shared) (H:Hp) (E:XK):Cx where
 prog:=P
 w:=w
 K:=K
 mg:=m
 base:=d
 A:=A.deeper (envX (IY g) b s.heap.objs.size a f h)
 N:=N
 s₀:=s
 H₀:=H
 env:=envX (IY g) b s.heap.objs.size a f h
 outer:=o
 stack:=envX (IY g) b s.heap.objs.size a f h::o
 ex:=[]
 calm:=true
 fn:=fun _=>false
 pn:=[]
 xe:=fun e i=>wpAny (model P w) (A.deeper (envX (IY g) b s.heap.objs.size a f h)) (leaving (envX (IY g) b s.heap.objs.size a f h) e) (fun _ c=>Br P w K o H s E e c) (fun j c=>Br P w K o H s E j c) i
def jP {K:Frag} {N:List Str} {e:List (Str×Addr)}:
 Lv (Wd g P w K m c N b a d e A o s H E) E:=⟨fun _ _ h=>h,rfl,rfl,rfl⟩
def jQ {K:Frag} {N:List Str} {e:List (Str×Addr)}:
 CS (Br P w K) (Wd g P w K m c N b a d e A o s H E) E:=VL jP
structure jR (scope:Scope):Prop where
 kind:scope.kind=.function
 co:scope.isCoroutine=false
 gen:scope.isGenerator=false
 only:(scope.names.all fun y=>y.2 != .cell)=true
end
section
variable {g:Str}
structure wF (k:Nat) (A:Around):Prop where
 dp:A.depth+3*k+5<recursionLimit
 un:A.units+16*k+200<cLine
 gd:A.guards=some []
def wF.deeper {k:Nat} {A:Around} (r:wF (k+1) A) (e:Env):wF k (A.deeper e):=
 ⟨by have:=r.dp;show A.depth+1+3*k+5<_;omega,by have:=r.un;show A.units+3+16*k+200<_;omega,r.gd⟩
def wF.units {k:Nat} {A:Around} (r:wF k A):A.units+64<cLine:=by have:=r.un;omega
def wF.mono {j k:Nat} (r:wF k A) (h:j≤k):wF j A:=⟨by have:=r.dp;omega,by have:=r.un;omega,r.gd⟩
def wF.of {k:Nat} {A:Around} (r:wm k A) (e:Option Value):wF k (A.mark e):=⟨r.dp,r.un,r.gd⟩
noncomputable def Jw (P:Program) (w:World) (K:Frag) (m:Str→Option Value) (b:Heap) (N:List Str) (q:Str) (a:Scope) (f:Addr) (c:Value) (A:Around) (o:List Env) (s:Shared) (H:Hp):Cx:=
 {CT US P w K m b N q a f c A o s H E0 with calm:=false,xe:=fun _ _=>False}
def jS {K:Frag} {N B:List Str} {d:Scope} {s R:Shared} {C:List V} 
 (S:Fd N B d) (t:Env0 P w K O m A o s H) (Y:C.length=B.length) (r:Vals C Q)
 (x:InCallC s s.heap.objs.size (bindL (envOfC j d s.heap.objs.size f J).kindOf (B.zip Q) fun _=>none) (cellsFrom (s.heap.objs.size+1) d.names []) (bindC (envOfC j d s.heap.objs.size f J).kindOf (B.zip Q) fun _=>none) R):
 Inv (Jw P w K O m N j d f J A o s H) [] (start N C) H R:=by
 have U:B.length≤N.length:=by have:=congrArg List.length S.pre;rw [Ln] at this;omega
 obtain ⟨L,Z,rfl,hk⟩:=x.done;have E:∀b:Addr,b∉(Jw P w K O m N j d f J A o s H).ex:=fun b z=>absurd (show b∈([]:List Addr) from z) (by simp);refine ⟨⟨t.mod,S.kind,rfl,rfl,AK _,fun y z c L l=>?_,fun y F=>?_,fun y c _ h=>?_,fun z=>(nomatch z),Around.frames_deeper t.frames,.inr ⟨rfl,rfl⟩,fun b z=>absurd z (E b),t.bs,t.bsz,fun b _ _=>E b,fun b z=>absurd z (E b),t.funs,t.frf⟩,
  rfl,t.bare,Un.kept hk,⟨_,x.toInCall.ns,fun i y v L l h3=>?_⟩,fun y c h=>⟨_,x.cell y c h⟩,t.hok.fresh (AK _),fun y c h=>?_,fun p G=>absurd (show p∈([]:PQ) from G) (by simp),t.hok.kept hk,?_⟩
 ·exact name_of_addr x.apart (PySem.mem_of_lookup L) (PySem.mem_of_lookup l)
 ·have F:d.names.lookup y=some .cell∨d.names.lookup y=some .free:=F;rcases F with F |F
  ·exact L1 F
  ·exact absurd rfl (S.nofree _ (PySem.mem_of_lookup F))
 ·exact IQ (x.above y c (PySem.mem_of_lookup h))
 ·have M:i<C.length:=by
   unfold L2.start at l
   by_cases M:i<C.length
   ·exact M
   ·rw [IF (by simpa using M)] at l;rw [N5] at l;split at l<;>cases l
  have W:C[i]?=some v:=by
   unfold L2.start at l;rw [EH (by simpa using M),Cg] at l;cases e:C[i]? with
   |none=>rw [e] at l;cases l
   |some a=>rw [e] at l;cases l;rfl
  obtain ⟨u,T,X⟩:=r.get W;have G:B[i]?=some y:=by rw [←S.pre,N4 (by omega)];exact L
  have I:B.Nodup:=by rw [←S.pre];exact S.nd.sublist (List.take_sublist _ _)
  refine ⟨u,X,?_⟩;rcases S.par y (FM G) with k |k
  ·exact .inl ⟨k,ON I G T k⟩
  ·obtain ⟨c,e⟩:=L1 (n:=s.heap.objs.size+1) k;refine .inr ⟨.inl k,c,e,?_⟩;have q:=x.cell y c e;rw [OO I G T (by show d.names.lookup y≠_;rw [k];decide)] at q;exact q
 ·exact t.hok.fresh (IQ (x.above y c (PySem.mem_of_lookup h)))
 ·unfold L2.start
  show _=N.length
  rw [DE,Ci,List.length_replicate];omega
structure Wf (P:Program) (w:World) (K:Frag) (mg:Str→Option Value) (base:Heap) (k:Nat) (f:Addr) (fd:FuncData) (ps:List Str) (F:TF):Prop where
 run:∀(A:Around) (outer:List Env) (s:Shared) (H:Hp) (args:Args) (us:List Value) (vs:List V) (Q:VK),wF k A→Env0 P w K mg base A outer s H→BindsTo s fd args (ps.zip us)→Vals vs us→Mc K F vs H Q E0→
  codeAny (model P w) A (.call (.ref f) args) (CR US outer P w H s Q E0) s
def jT {K:Frag} {st:Stmt} {N G:List Str} {k:Nat} {F:TF} {g:MS} (Fn:Fun K x i st f fd) (S:Fd N G (wb st)) (ar:Ar G.length F)
 (hg:∀t h,t.length=G.length→F t h=Al N.length g t h)
 (L:∀(l:Value) (A:Around) (c:List Env) (s:Shared) (H:Hp),wF k (A.deeper (envOfC i (wb st) s.heap.objs.size f l))→Df (Jw P w K Y j N i (wb st) f l A c s H) E0 (wh st) g):Wf P w K Y j (k+1) f fd G F:=by
 obtain ⟨oc,od,kV,doc,pm,an,l,ct,osl,rfl,lk,hcd⟩:=Fn.ex;refine ⟨fun A c s H args us Z Q hr R hb r T=>?_⟩;have hl:Z.length=G.length:=ar.len T;have KX:K.In s.heap:=R.mod.kin.keeps fun b o e=>(R.bs b o e).1;have lim:s.heap.NoLimit:=R.mod.nolimit.keeps fun b o e=>(R.bs b o e).1;have M:∀y∈G.zip us,(wb st).names.lookup y.1=some .local∨((wb st).names.lookup y.1=some .cell∧((cellsFrom (s.heap.objs.size+1) (wb st).names []).lookup y.1).isSome=true):=fun z1_ hy=>by
  obtain ⟨n,v⟩:=z1_;rcases S.par n (Lq hy).1 with q |q
  ·exact .inl q
  ·exact .inr ⟨q,cellsFrom_some _ _ _ (.inl q)⟩
 refine codeAny_call_function (by have:=hr.dp;omega) (KX _ _ lk) rfl S.co S.gen rfl (codeRec_of KX hcd) (hb _ _ _ _ ?_);refine wpAny_newFunctionEnv_cells S.kind M fun env he s1 x=>?_;subst he;refine ⟨lim.keeps x.toInCall.keep,codeAny_func ?_⟩;have I:Inv (Jw P w K Y j N i (wb st) f l A c s H) [] (start N Z) H s1:=jS S R hl r x;have AQ:∀{z:L2.St} {E:Hp} {v:V} {u:Value} {U:Shared},Inv (Jw P w K Y j N i (wb st) f l A c s H) [] z E U→RelV v u→Q v E→CE c P w H s Q u U:=
  fun {z E v u U} J W q=>⟨v,E,J.os,J.bare,J.base,J.hok,W,q⟩
 have X:Ko K E0 g {nx:=fun _ E=>Q .non E,rt:=Q} (start N Z) H:=by
  obtain ⟨m,t,hd,B,r,p⟩:=T;have hld:t.length=G.length:=by rw [r.len];exact hl
  refine ⟨m,t.map some++List.replicate (N.length - t.length) none,hd,B,ER.start r,?_⟩;rw [hg t hd hld] at p;unfold Al at p;cases o:g (t.map some++List.replicate (N.length - t.length) none) hd with
  |stuck=>rw [o] at p;exact p
  |err C fs h1=>rw [o] at p;exact p
  |ok a h1=>
   rw [o] at p;obtain ⟨fl,ρ1⟩:=a;intro m1 H1 p1 k1 B;cases fl with
   |nx=>exact fun σ er=>p .non m1 H1 p1 k1 B (by simp [rD,DV])
   |bk=>exact False.elim p
   |ct=>exact False.elim p
   |rt d=>exact fun v W=>p v m1 H1 p1 k1 B W
 refine Bm (L l A c s H (hr.deeper _) [] s1 (start N Z) H _ I X) (fun fl U O=>?_) fun e U O=>O.elim;cases fl with
 |ret u=>obtain ⟨v,z,E,J,W,q⟩:=O;exact AQ J W q
 |next=>obtain ⟨z,E,J,q⟩:=O;exact AQ (v:=V.non) (u:=Value.none) J rfl q
 |brk=>obtain ⟨_,_,_,q⟩:=O;exact False.elim q
 |cont=>obtain ⟨_,_,_,q⟩:=O;exact False.elim q
structure CaM (P:Program) (w:World) (K:Frag) (mg:Str→Option Value) (base:Heap) (x:Str) (k:Nat) (F:TF):Prop where
 ex:∃(f:Addr) (fd:FuncData) (ps:List Str),Wf P w K mg base k f fd ps F∧Binds K fd ps []∧mg x=some (.ref f)∧keepIn K (.ref f)=true∧Ar ps.length F
section
variable {X:Cx} {E:XK}
def jU {k z:Nat} {F:TF} {x:Str} {e:Expr} (C:CaM X.prog X.w X.K X.mg X.base x k F) (J:wF z X.A) (L:CU X E0 (e::a) o) (hk:k≤z:=by decide) (M:Gl X x:=by rfl)
 (t:(x==("__debug__":Str))=false:=by decide) (N:starEach (e::a) X.env=(false,eval e X.env)::starEach a X.env:=by rfl) (w:(backTo pos (starEach a X.env)).any (·.1)=false:=by rfl):
 Ev X E0 (.Call (.Name x p) (e::a) [] pos) (Ab F o):=by
 obtain ⟨f,fd,O,G,P,R,y,S⟩:=C.ex;rintro b s A H Q I ⟨m,T,U,h,W,Y⟩;refine wpAny_Call_Name_kw (Gj I M R ?_ t);have c:L9 X.K E0 o A H (fun v j=>Mc X.K F v j Q E0):=⟨m,T,U,h,W,wa.bind Y fun Z h1 v m1 j e1 p1 k1 h r1 q1=>⟨m1,Z,h1,h,r1,q1⟩⟩
 refine callWith_K (h₀:=X.base) I.ok.mod.kin y (Ap (L pos b s A H _ I c) ?_) N w;rintro l B ⟨v,j,n,r,q⟩;refine ⟨n.kIn,?_⟩;have hl:l.length=O.length:=by rw [←r.length];exact S.len q
 have d:=P B l n.kIn (by rw [FO];exact hl);rw [FO] at d;refine wpAny_call (codeAny_mono (G.run X.A X.stack B j ⟨l,[]⟩ l v Q (J.mono hk) n.env0 d r q) fun r s' i=>?_);cases r with
 |error e=>exact False.elim i
 |ok fl=>
  cases fl with
  |ret u=>exact n.after i
  |next=>exact False.elim i
  |brk=>exact False.elim i
  |cont=>exact False.elim i
end
end
section
variable {g:Str}
def Wg {fs:List Addr} {H l:Hp} {p h m:Heap} (B:Un fs [] H l p h) (E:HOk P w l h) (Y:p.get? a=none) (nT:p.get? T=none) (N:l a=none) (Z:l T=none)
 (i:∀b∈fs,l b=none) (d:∀b∈fs,∃o,h.get? b=some o∧∀F,o.data≠.fields F) (stay:(blank (fun b=>b=a∨b=T∨b∈fs) h).StaysIn m) (r:∀b o,h.get? b=some o→(∀F,o.data≠.fields F)→∃L,m.get? b=some {o with slots:=L})
 (tr:m.TracedW (blank (fun b=>b=a∨b=T∨b∈fs) h) a C X) {O:Option Addr} {Q:Obj} (ea:h.get? a=some Q) (ed:Q.dict=O) (dd:wy h m):Un fs [] H l p m∧HOk P w l m∧Ms p m l a C O:=by
 obtain ⟨oe,F,t,oT,ts,e1,e2,e3,e4,G,e6,R,e8,e9⟩:=tr;have S:oe.dict=O:=by obtain ⟨s,q1,q2⟩:=dd a Q ea;rw [e1] at q1;cases q1;exact q2.trans ed
 have k:∀b o,¬(b=a∨b=T∨b∈fs)→h.get? b=some o→m.get? b=some o:=fun b o f e=>stay b o (by rw [HB f];exact e);have j:∀b o,p.get? b=some o→b≠a∧b≠T:=fun b o e=>⟨fun z=>(by rw [z,Y] at e;cases e),fun z=>(by rw [z,nT] at e;cases e)⟩
 have any:∀b o,p.get? b=some o→h.get? b≠none→∃s,m.get? b=some s:=fun b o e hn=>by
  cases e':h.get? b with
  |none=>exact absurd e' hn
  |some s=>
   by_cases f:b∈fs
   ·obtain ⟨M,x,y⟩:=d b f;obtain ⟨L,I⟩:=r b M x y;exact ⟨_,I⟩
   ·exact ⟨s,k b s (fun z=>by rcases z with z |z |z;exact (j b o e).1 z;exact (j b o e).2 z;exact f z) e'⟩
 refine ⟨⟨fun b o e n f J=>?_,fun b o e n f J=>?_,B.free,fun b o e J=>?_,B.tups,B.frzs,B.tbls⟩,fun b o e=>?_,Y,N,oe,F,X,t,oT,ts,e1,e2,e3,e4,?_,?_,e6,R,e8,e9,S⟩
 ·exact k b o (fun z=>by rcases z with z |z |z;exact (j b o e).1 z;exact (j b o e).2 z;exact f z) (B.keep b o e n f J)
 ·obtain ⟨L,A⟩:=B.slot b o e n f J;obtain ⟨M,x,y⟩:=d b f;rw [A] at x;cases x;obtain ⟨U,I⟩:=r b _ A y;exact ⟨U,I⟩
 ·obtain ⟨s,A⟩:=B.there b o e J;exact any b o e (by rw [A];simp)
 ·refine (E b o e).stay (fun c u W q=>k c u (fun z=>?_) q) (fun _ q=>q) fun _ _ q=>q;have v:l c≠none:=by
   rcases W with rfl |W
   ·rw [e];simp
   ·rw [W];simp
  rcases z with z |z |z
  ·exact v (z ▸ N)
  ·exact v (z ▸ Z)
  ·exact v (i c z)
 ·cases q:p.get? t with
  |none=>rfl
  |some o=>
   exfalso;obtain ⟨s,A⟩:=B.there t o q (by simp)
   by_cases f:t∈fs
   ·obtain ⟨M,x,y⟩:=d t f;obtain ⟨L,I⟩:=r t M x y;rw [I] at R;cases R;exact y _ e8
   ·rw [HB (fun z=>by rcases z with z |z |z;exact (j t o q).1 z;exact (j t o q).2 z;exact f z),A] at G;cases G
 ·cases q:l t with
  |none=>rfl
  |some o=>
   exfalso
   by_cases f:t=a∨t=T∨t∈fs
   ·rcases f with z |z |z
    ·rw [z,N] at q;cases q
    ·rw [z,Z] at q;cases q
    ·rw [i t z] at q;cases q
   ·rw [HB f] at G;obtain ⟨ob,eb⟩:=Pj (E t o q);rw [eb] at G;cases G
def jV {A:Around} {s:Shared} {a:Env} {Q:Unit→Shared→Prop} (fr:A.frames=some (a::o)) (lo:a.frame=some L) (j:Heap.FlyingW b (a::o) e C c s.heap)
 (q:∀h,Heap.HeldW b (a::o) e C c L h→s.heap.UpToSlots h→wy s.heap h→Q () {s with heap:=h}):wpAny M A (noteFrame (.ref e) a) Q E s:=by
 refine Bm (KB VH (wpAny_looks_onW (M:=M) (A:=A) (E:=fun _ _=>False) (Q:=fun _ i=>∃h,i={s with heap:=h}∧Heap.HeldW b (a::o) e C c L h∧s.heap.UpToSlots h) fr lo j fun h d f=>⟨h,rfl,d,f⟩)) (fun _ i z=>?_) fun _ _ z=>z.1.elim;obtain ⟨⟨h,rfl,d,f⟩,D⟩:=z;exact q h d f D
def jW {s:Shared} {Q:Unit→Shared→Prop} (a:Heap.HeldW b l e C c L s.heap)
 (q:∀h,Heap.FlyingW b l e C c h→s.heap.UpToSlots h→wy s.heap h→Q () {s with heap:=h}):wpAny M A (setFlight (.ref e) none) Q E s:=by
 refine Bm (KB Ph (wpAny_landsW (M:=M) (A:=A) (E:=fun _ _=>False) (Q:=fun _ s'=>∃h,s'={s with heap:=h}∧Heap.FlyingW b l e C c h∧s.heap.UpToSlots h) a fun h d f=>⟨h,rfl,d,f⟩)) (fun _ s' z=>?_) fun _ _ z=>z.1.elim;obtain ⟨⟨h,rfl,d,f⟩,D⟩:=z;exact q h d f D
def jX {s:Shared} {Q:Unit→Shared→Prop} (a:Heap.FlyingW b l e C c s.heap)
 (q:∀h,Heap.FlyingW b l e C c h→s.heap.UpToSlots h→wy s.heap h→Q () {s with heap:=h}):wpAny M A (setFlight (.ref e) none) Q E s:=by
 refine Bm (KB Ph (lands_againW (M:=M) (A:=A) (E:=fun _ _=>False) (Q:=fun _ s'=>∃h,s'={s with heap:=h}∧Heap.FlyingW b l e C c h∧s.heap.UpToSlots h) a fun h d f=>⟨h,rfl,d,f⟩)) (fun _ s' z=>?_) fun _ _ z=>z.1.elim;obtain ⟨⟨h,rfl,d,f⟩,D⟩:=z;exact q h d f D
section
variable {X:Cx} {pins:PQ} {σ:L2.St} {H:Hp} {s:Shared}
def Inv.track {o:HO} (I:Inv X pins σ H s) (new:X.s₀.heap.get? a=none) (no:H a=none) (j:a≠X.env.locals) (k:∀x c,X.env.cells.lookup x=some c→c≠a) (l:∀p∈X.pn++pins,p.1≠a) (ok:wu X.prog X.w (Av H a o) s.heap a o):
 Inv X pins σ (Av H a o) s:=by
 have ne:∀b u,H b=some u→b≠a:=fun b u e=>BY e no;refine ⟨I.ok,I.os,I.bare,⟨I.base.keep,I.base.slot,fun b d e n r=>?_,I.base.there,fun b f e=>?_,fun b d u e=>?_,fun b t e=>?_⟩,I.loc,I.cell,?_,fun x c e=>?_,fun p h=>?_,fun b u e=>?_,I.len⟩
 ·rw [AJ (fun z=>by rw [z,new] at e;cases e)];exact I.base.free b d e n r
 ·have:=I.base.tups b f e;rw [AJ (ne _ _ this)];exact this
 ·have:=I.base.frzs b d u e;rw [AJ (ne _ _ this)];exact this
 ·obtain ⟨m,this⟩:=I.base.tbls b t e;exact ⟨m,by rw [AJ (ne _ _ this)];exact this⟩
 ·rw [AJ (Ne.symm j)];exact I.free
 ·rw [AJ (k x c e)];exact I.freeC x c e
 ·obtain ⟨v,w,y⟩:=I.pin p h;exact ⟨v,by rw [AJ (l p h)];exact w,y⟩
 ·by_cases i:b=a
  ·subst i;rw [CA] at e;cases e;exact ok
  ·rw [AJ i] at e;exact (I.hok b u e).stay (fun _ _ _ q=>q) (fun c q=>by rw [AJ (ne _ _ q)];exact q) fun c f q=>by rw [AJ (ne _ _ q)];exact q
def Inv.locals {σ':L2.St} {j:Heap} {t':Nat} (I:Inv X pins σ H s) (l:j.Ns X.env.locals w) (d:Heap.SameBut X.env.locals s.heap j)
 (B:∀(i:Nat) (x:Str) (v:V),X.N[i]?=some x→σ'[i]?=some (some v)→LN X.env.scope x→∃u,RelV v u∧Ui X.env j w x u) (len:σ'.length=σ.length):Inv X pins σ' H {s with heap:=j,toks:=t'}:=by
 obtain ⟨m,C,_⟩:=id I.loc;obtain ⟨P,_,_,E,_⟩:=id C;have a:∀b o,X.s₀.heap.get? b=some o→b≠X.env.locals:=fun b o e=>BX (Bn (AY e) I.ok.above);refine ⟨I.ok,I.os,I.bare,⟨fun b o e n r f=>?_,fun b o e n r f=>?_,I.base.free,fun b o e f=>?_,I.base.tups,I.base.frzs,I.base.tbls⟩,⟨_,l,B⟩,fun y c e=>?_,I.free,I.freeC,fun p F=>?_,fun b G e=>?_,len.trans I.len⟩
 ·exact (d.2 b (a b o e)).trans (I.base.keep b o e n r f)
 ·obtain ⟨J,t⟩:=I.base.slot b o e n r f;exact ⟨J,(d.2 b (a b o e)).trans t⟩
 ·obtain ⟨L,t⟩:=I.base.there b o e f;exact ⟨L,(d.2 b (a b o e)).trans t⟩
 ·obtain ⟨v,z⟩:=I.cell y c e;exact ⟨v,z.sameBut d (I.cne y c e)⟩
 ·obtain ⟨M,N,A,O⟩:=I.pin p F;exact ⟨(d.2 _ A).trans M,N,A,O⟩
 ·refine (I.hok b G e).stay (fun c Q k q=>(d.2 c ?_).trans q) (fun _ q=>q) fun _ _ q=>q;rintro rfl;have h:=I.free;rcases k with rfl |k
  ·rw [h] at e;cases e
  ·rw [h] at k;cases k
def jY {i:Nat} {Q:Unit→Shared→Prop} (I:Inv X pins σ H s) (B:X.N.Nodup) (b:X.N[i]?=some n) (f:X.env.kindOf n=some .local)
 (h:∀C,Inv X pins (σ.set i none) H C→Q () C):wpAny M A (do bindName X.env n .none;unbindBehindTheSuite X.env n pos) Q E s:=by
 have J:(X.env.scope.kind==.class||(X.env.scope.kind==.module&&X.env.locals != X.env.globals))=false:=by rw [I.ok.kind];rfl
 refine Aj (wpAny_bindName (Ke (v:=.non) I B b (.inl f) rfl (fun L p _=>?_) (.inr f)));unfold unbindBehindTheSuite;refine wpAny_onRaise ?_;unfold unbindName;refine Aj (wpAny_point (Aj ?_));unfold deleteName;simp only [f,J];rw [if_neg (by decide)];obtain ⟨N,q,k⟩:=p.loc;have t:(N n).isSome=true:=by
  have a:i < σ.length:=by rw [I.len];exact (qa1.mp b).1
  obtain ⟨u,_,lk⟩:=k i n .non b (by rw [BP a]) (.inl f);rcases lk with ⟨_,z⟩ |⟨z,_⟩
  ·rw [z];rfl
  ·rcases z with z |z<;>(rw [f] at z;cases z)
 refine Aj (wpAny_nsDel_keeps q fun S v w l=>?_);simp only [t,if_true,Bool.not_true,Cz,if_false];refine AD (wpAny_point (h _ (Inv.locals (t':=L.toks) (p.weak (σ':=σ.set i none) (by simp) fun j F e=>?_) w l (fun j x F G m O=>?_) rfl)))
 ·by_cases d:i=j
  ·subst d;have a:i < σ.length:=by rw [I.len];exact (qa1.mp b).1
   rw [BP a] at e;cases e
  ·rw [BI d] at e ⊢;exact e
 ·have d:i≠j:=by
   rintro rfl;have a:i < σ.length:=by rw [I.len];exact (qa1.mp b).1
   rw [BP a] at m;cases m
  rw [BI d] at m;obtain ⟨u,r,lk⟩:=k j x F G (by rw [BI d];exact m) O;have P:x≠n:=fun z=>d (OA B b (z ▸ G));refine ⟨u,r,?_⟩;rcases lk with ⟨y,o⟩ |⟨y,c,o,R⟩
  ·exact .inl ⟨y,(if_neg P).trans o⟩
  ·exact .inr ⟨y,c,o,R.sameBut l (p.cne x c o)⟩
end
end
section
variable {g:Str}
noncomputable def Jx:List (Str×D)→Option (List (Str×Int))
 |[]=>some []
 |(f,.int i)::r=>(Jx r).map fun l=>(f,i)::l
 |_=>none
def Wh:∀{fs:List (Str×D)} {is:List (Str×Int)} {f:Str} {i:Int},Jx fs=some is→is.lookup f=some i→fs.lookup f=some (.int i)
 |[],is,f,i,e,l=>by cases e;cases l
 |(g,d)::r,is,f,i,e,l=>by
  cases d with
  |int j=>
   simp only [Jx] at e;cases a:Jx r with
   |none=>rw [a] at e;cases e
   |some b=>
    rw [a] at e;cases e;rw [E4] at l ⊢;cases h:f==g with
    |true=>rw [h] at l;cases l;rfl
    |false=>rw [h] at l;exact Wh a l
  |_=>cases e
open Classical in
section
variable {X:Cx} {E:XK} {P a c':Addr} {lpos:Pos} {Nc:List Str} {params:Arguments} {body:Expr} {scope:Scope} {cl:List (Str×Addr)} {pm ctv:Value} {vs:List V}
noncomputable def GM (X:Cx) (e:Addr):Cx:={X with A:=X.A.mark (some (.ref e)),calm:=false,xe:=fun _ _=>False}
def Inv.marked (I:Inv X p b H s):Inv (GM X e) p b H s:=
 ⟨⟨I.ok.mod,I.ok.kind,I.ok.glob,I.ok.blt,I.ok.above,I.ok.inj,I.ok.has,I.ok.cab,fun z=>(nomatch z),I.ok.frames,I.ok.stk,I.ok.exf,I.ok.bs,I.ok.bsz,I.ok.noex,I.ok.exfs,I.ok.funs,I.ok.frf⟩,I.os,I.bare,I.base,I.loc,I.cell,I.free,I.freeC,I.pin,I.hok,I.len⟩
def Inv.unmarked (ok:X.Ok) (I:Inv (GM X e) p b H s):Inv X p b H s:=
 ⟨ok,I.os,I.bare,I.base,I.loc,I.cell,I.free,I.freeC,I.pin,I.hok,I.len⟩
end
end
section
variable {g:Str}
structure LSc (X:Cx) (scope:Scope) (Nc:List Str) (cs:List Nat):Prop where
 lam:jR scope
 nd:(scope.names.map (·.1)).Nodup
 free:(scope.names.all fun y=>y.2 != .free||(X.env.kindOf y.1==some .cell||X.env.kindOf y.1==some .free))=true
 len:cs.length=Nc.length
 out:((Nc.zip cs).all fun p=>X.N[p.2]?==some p.1&&scope.names.lookup p.1==some .free)=true
def LSc.at_ {X:Cx} {s:Scope} {N:List Str} {c:List Nat} (S:LSc X s N c) {i j:Nat} {x:Str} (h:N[i]?=some x) (a:c[i]?=some j):X.N[j]?=some x∧s.names.lookup x=some .free:=by
 have b:(N.zip c)[i]?=some (x,j):=by rw [List.getElem?_zip_eq_some];exact ⟨h,a⟩
 have:=qaT.mp S.out (x,j) (FM b);simpa using this
def LSc.fr {X:Cx} {s:Scope} {N:List Str} {c:List Nat} (S:LSc X s N c):∀y∈s.names,y.2=.free→X.env.kindOf y.1=some .cell∨X.env.kindOf y.1=some .free:=fun y h e=>by have:=qaT.mp S.free y h;rw [e] at this;simpa using this
end
def KL (m:Str→Option Value) (b:Heap):Prop:=∃a o,m "__builtins__"=some (.ref a)∧a≠builtinsNs∧b.get? a=some o∧o.cls=.type "module"∧o.dict=some builtinsNs∧o.data=.plain
open AutoSeq1 (wpAny_loadPart')
def jZ:fillsNumberSlot (.type "tuple") "mul"=pure false:=by first |exact n |(unfold fillsNumberSlot;kernel_rfl)
def j0:seqRepeat? (.type "tuple")=pure (some (.builtin "tuple.__mul__")):=by unfold seqRepeat?;rw [PySem.seqSlot_of (T:="tuple") (name:="__mul__") (id:="tuple.__mul__") F.slot_tuple_mul.lookup (by decide +kernel),PySem.seqSlot_of (T:="tuple") (name:="__rmul__") (id:="tuple.__rmul__") (by rw [typeLookup_type,builtinLookup_eq_fast];kernel_rfl) (by decide +kernel)];rfl
def j1 (a:Int) (t:Tok) (l:Addr) (i:Array Value) (n:Nat) (b:Option Addr) (c:Array (Option Value)):
 Meets (Builtin.«int.__rmul__» ⟨[.int a t,.ref l],[]⟩) (fun _ R s=>s.heap.get? l=some {cls:=.type "tuple",dict:=b,data:=.seq i n,slots:=c}∧R (.ok (.ret Value.notImplemented)) s):=
 .of_wp fun p w A R s h=>by
  obtain ⟨e,g,d,f,os⟩:=s;obtain ⟨j,h⟩:=h
  wp_walk;exact ⟨_,rfl,h⟩
def j2 (l:Addr) (i:Array Value) (n:Nat) (k:Option Addr) (m:Array (Option Value)) (x:Int) (u:Tok) (C:1<x) (E:x<2^63) (a:i.isEmpty=false) (e:i.size*x.toNat≤sizeLine):
 Meets (Builtin.«tuple.__mul__» ⟨[.ref l,.int x u],[]⟩) (fun _ R s=>s.heap.get? l=some {cls:=.type "tuple",dict:=k,data:=.seq i n,slots:=m}∧R (.ok (.ret (Value.ref s.heap.objs.size))) {s with heap:=s.heap.push {cls:=Value.type "tuple",data:=Data.seq (List.foldl (fun b c=>b++c) #[] (List.replicate x.toNat i))}}):=
 .of_wp fun p w A R s h=>by
  obtain ⟨F,g,d,G,os⟩:=s;obtain ⟨f,h⟩:=h;have o:(decide (x < -2^63)||decide (x≥2^63))=false:=by simp;omega
  have q:(i.isEmpty||x==1)=false:=by rw [a,Bool.false_or];exact beq_eq_false_iff_ne.mpr (by omega)
  have r:(decide (x≤0)||i.isEmpty)=false:=by rw [a,Bool.or_false];exact decide_eq_false (by omega)
  have t:(x.toNat:Int)=x:=Int.toNat_of_nonneg (by omega);have v:(i.size:Int)*x≤sizeLine:=by rw [←t];exact_mod_cast e
  have y:¬((i.size:Int)*x>(2^63 - 1) / 8):=by
   have:(sizeLine:Int)≤(2^63 - 1) / 8:=by decide
   omega
  have z:Builtin.Tuple.tupleTooMany ((i.size:Int)*x)=false:=by unfold Builtin.Tuple.tupleTooMany;exact decide_eq_false (by omega)
  have B:(List.foldl (fun b c=>b++c) #[] (List.replicate x.toNat i)).size≤sizeLine:=by
   have j:=L6 i.toList x.toNat [];rw [G7] at j;have:List.foldl (fun b c=>b++c) #[] (List.replicate x.toNat i)=(List.replicate x.toNat i.toList).flatten.toArray:=by simpa using j
   rw [this,Bh,L7,Kc];simpa using e
  wp_walk using wpAny_loadPart' f
  rw [o];simp only [Cz,if_false];refine Aj ?_;unfold Builtin.Tuple.tupleItemsOf
  wp_walk using wpAny_loadPart' f
  rw [q];simp only [Cz,if_false];rw [r];simp only [Cz,if_false];rw [if_neg y,z];simp only [Cz,if_false];refine Aj (EJ (AD ⟨_,rfl,h⟩) B)
def j3 (l:Addr) (i:Array Value) (n:Nat) (a:Option Addr) (b:Array (Option Value)) (u:Tok):
 Meets (Builtin.«tuple.__mul__» ⟨[.ref l,.int 1 u],[]⟩) (fun _ R s=>s.heap.get? l=some {cls:=.type "tuple",dict:=a,data:=.seq i n,slots:=b}∧R (.ok (.ret (Value.ref l))) s):=
 .of_wp fun p w A R s h=>by
  obtain ⟨e,g,d,t,os⟩:=s;obtain ⟨c,h⟩:=h;have f:(decide ((1:Int) < -2^63)||decide ((1:Int)≥2^63))=false:=by decide
  have j:(i.isEmpty||(1:Int)==1)=true:=by simp
  wp_walk using wpAny_loadPart' c
  exact ⟨_,rfl,h⟩
def j4 (l:Addr) (i:Array Value) (n:Nat) (c:Option Addr) (e:Array (Option Value)) (x:Int) (u:Tok) (o:-(2^63)≤x) (f:x≤0) (a:i.isEmpty=false):
 Meets (Builtin.«tuple.__mul__» ⟨[.ref l,.int x u],[]⟩) (fun _ R s=>s.heap.get? l=some {cls:=.type "tuple",dict:=c,data:=.seq i n,slots:=e}∧R (.ok (.ret (Value.ref s.heap.objs.size))) {s with heap:=s.heap.push {cls:=Value.type "tuple",data:=Data.seq #[]}}):=
 .of_wp fun p w A R s h=>by
  obtain ⟨q,g,d,t,os⟩:=s;obtain ⟨b,h⟩:=h;have j:(decide (x < -2^63)||decide (x≥2^63))=false:=by simp;omega
  have k:(i.isEmpty||x==1)=false:=by rw [a,Bool.false_or];exact beq_eq_false_iff_ne.mpr (by omega)
  have m:(decide (x≤0)||i.isEmpty)=true:=by rw [a,Bool.or_false];exact decide_eq_true f
  wp_walk using wpAny_loadPart' b
  rw [j];simp only [Cz,if_false];refine Aj ?_;unfold Builtin.Tuple.tupleItemsOf
  wp_walk using wpAny_loadPart' b
  rw [k];simp only [Cz,if_false];rw [m];simp only [if_true];refine Aj (EJ (AD ⟨_,rfl,h⟩) (by show (#[]:Array Value).size≤sizeLine;simp))
section
variable {X:Cx} {E:XK}
def j5 (K:Frag):R2:=fun x y H Q=>∃l k a,x=.ref l∧y=.int k∧TupAt K H l a∧a≠[]∧-(2^63)≤k∧k<2^63∧a.length*k.toNat≤sizeLine∧(k=1→Q (.ref l) H)∧
 ∀p,H p=none→Q (.ref p) (Av H p (.tup (List.replicate k.toNat a).flatten))
def Inv.tnew {s:Shared} {y:List V} {its:List Value} {t':Nat} (I:Inv X p a H s) (h:Vals y its) (b:y.length≤sizeLine):
 Inv X p a (Av H s.heap.objs.size (.tup y)) {s with heap:=s.heap.push {cls:=.type "tuple",data:=.seq its.toArray},toks:=t'}:=
 I.laid (fun _ _ q=>AW _ q) (AK _) ⟨b,its,h,⟨_,Bx _ rfl,rfl,0,rfl⟩,wH.new⟩
def op_repT:OpR X (binaryOp .Mult) (j5 X.K):=by
 intro w s σ H x y v u Q I M N h;obtain ⟨l,k,A,rfl,rfl,O,j,P,R,B,S,q⟩:=h;cases M;obtain ⟨t,rfl⟩:=N;obtain ⟨z,i,r,⟨o,c,C,n,G⟩,_⟩:=tok ⟨I.hok,I.kIn⟩ O;obtain ⟨oc,f,W,g⟩:=o;simp only at C G;subst C G;have J:=r.length;have d:i.toArray.isEmpty=false:=by
  cases i with
  |nil=>exfalso;cases A with
   |nil=>exact j rfl
   |cons _ _=>simp at J
  |cons a b=>simp
 have m:∀{p:Value→Shared→Prop},wpAny (model X.prog X.w) X.A (call (.builtin "tuple.__mul__") [.ref l,.int k t]) p X.xe s→wpAny (model X.prog X.w) X.A (binaryOp .Mult (.ref l) (.int k t)) p X.xe s:=fun {p} Y=>
  wpAny_binaryOp_repeat_ref (T:="tuple") (U:="int") (by decide) ⟨_,c,rfl⟩ (fun Z=>typeIs_int Z k t) jZ F.fills_int_mul F.slot_int_rmul j0 F.slot_int_index.lookup
   (call_meets F.slot_int_rmul (typeIs_int s k t) F.entry_int_rmul (F.args_int_rmul_2 _ _) (j1 k t l i.toArray n f g) ⟨c,rfl,⟨_,c,rfl⟩,Y⟩)
 refine m ?_;rcases Int.lt_trichotomy k 1 with hk |hk |hk
 ·refine call_meets F.slot_tuple_mul ⟨_,c,rfl⟩ F.entry_tuple_mul (F.args_tuple_mul_2 _ _) (j4 l i.toArray n f g k t P (by omega) d) ⟨c,?_⟩;have e:(List.replicate k.toNat A).flatten=[]:=by
   have:k.toNat=0:=by omega
   rw [this];rfl
  have:=q _ I.fresh;rw [e] at this;exact ⟨.ref _,_,LS.Inv.tnew (its:=[]) (t':=s.toks) I .nil (EI _),rfl,this⟩
 ·subst hk;refine call_meets F.slot_tuple_mul ⟨_,c,rfl⟩ F.entry_tuple_mul (F.args_tuple_mul_2 _ _) (j3 l i.toArray n f g t) ⟨c,?_⟩;exact ⟨.ref l,H,I,rfl,S rfl⟩
 ·refine call_meets F.slot_tuple_mul ⟨_,c,rfl⟩ F.entry_tuple_mul (F.args_tuple_mul_2 _ _) (j2 l i.toArray n f g k t hk R d (by rw [Bh,←J];exact B)) ⟨c,?_⟩;have L:=L6 i k.toNat [];rw [G7] at L;have f1:List.foldl (fun x1 x2=>x1++x2) #[] (List.replicate k.toNat i.toArray)=(List.replicate k.toNat i).flatten.toArray:=L;rw [f1];exact ⟨.ref _,_,LS.Inv.tnew (t':=s.toks) I (r.rep k.toNat) (by rw [L7,Kc];exact B),rfl,q _ I.fresh⟩
def BU:D→D→HD→Out D:=fun x y h=>match x,y with
 |.tup a,.int k=>@ite _ (a≠[]∧-(2^63)≤k∧k<2^63∧a.length*k.toNat≤sizeLine) (Classical.propDecidable _) (.ok (.tup (List.replicate k.toNat a).flatten) h) .stuck
 |_,_=>DU x y h
def j6:BC X (binaryOp .Mult) BU:=by
 obtain ⟨t,b,l⟩:=hW (X:=X);refine ⟨_,op_repT.or b,fun m H h E x y v u Q c r f q=>?_⟩;unfold BU at q;split at q
 ·rename_i w k;split at q
  ·rename_i n;obtain ⟨g,o,p,s⟩:=n;simp only [DV] at r f;obtain ⟨a,i,rfl,j,d⟩:=r;subst f;refine .inl ⟨a,k,i,rfl,rfl,j,?_,o,p,by rw [←d.len];exact s,fun e=>?_,?_⟩
   ·intro e;have:=d.len;rw [e] at this;exact g (List.length_eq_zero_iff.mp this)
   ·subst e;refine Bb c q ?_;simp only [DV];exact ⟨a,i,rfl,j,by simpa using d⟩
   ·exact Ho c (DVs.rep d k.toNat) q
  ·exact q.elim
 ·exact .inr (l m H h E x y v u Q c r f q)
end
section
section
variable {X:Cx} {E:XK}
abbrev MJ:=Str→Ag→HD→Out Str
def Az:D→D→HD→Out D:=fun x y h=>match x,y with
 |.str a,.str b=>.ok (.bl (a==b)) h
 |_,_=>Hr x y h
def Bt:D→D→HD→Out D:=fun x y h=>match x,y with
 |.str a,.str b=>.ok (.bl (!(a==b))) h
 |_,_=>Fg x y h
def Wi (d:X.A.units+64<cLine):BC X (compareOp .Eq) Az:=by
 obtain ⟨e,a,i⟩:=gi (X:=X) d;refine ⟨_,op_eq.or a,fun m H h E x y v u Q c r b q=>?_⟩;unfold Az at q;split at q
 ·simp only [DV] at r b;subst r b;exact .inl ⟨rfl,by rw [LX];exact Bb c q (by simp [DV])⟩
 ·exact .inr (i m H h E x y v u Q c r b q)
def Wj (d:X.A.units+64<cLine):BC X (compareOp .NotEq) Bt:=by
 obtain ⟨e,a,i⟩:=gj (X:=X) d;refine ⟨_,op_ne.or a,fun m H h E x y v u Q c r b q=>?_⟩;unfold Bt at q;split at q
 ·simp only [DV] at r b;subst r b;exact .inl ⟨rfl,by rw [LX];exact Bb c q (by simp [DV])⟩
 ·exact .inr (i m H h E x y v u Q c r b q)
def MB:List Nat→List D→Ag→Option Ag
 |[],[],a=>some a
 |i::is,d::ds,a=>MB is ds (a.set i (some d))
 |_,_,_=>none
def En (is:List Nat):MG:=fun d a=>match d with
 |.tup b=>MB is b a
 |_=>none
def PM:List Nat→E8
 |[]=>Gk
 |i::is=>DG (CH i) (PM is)
def Wk:∀{is:List Nat} {ds:List D} {b a:Ag},MB is ds b=some a→ds.length=is.length
 |[],[],_,_,_=>rfl
 |[],_::_,_,_,e=>by cases e
 |_::_,[],_,_,e=>by cases e
 |_::is,_::ds,_,_,e=>by simpa using Wk (is:=is) (ds:=ds) e
def Wl {K:Frag}:∀{is:List Nat} {h:List D} {f:List V} {g a:Ag} {b:L2.St} {Q:L2.St→Hp→Prop},DVs K m H h f→ER K m H g b→MB is h g=some a→(∀c,ER K m H a c→Q c H)→PM is f b H Q
 |[],[],f,g,a,b,Q,r,j,e,q=>by simp only [DVs] at r;subst r;cases e;exact ⟨rfl,q b j⟩
 |[],_::_,_,_,_,_,_,_,_,e,_=>by cases e
 |_::_,[],_,_,_,_,_,_,_,e,_=>by cases e
 |i::is,d::h,f,g,a,b,Q,r,j,e,q=>by simp only [DVs] at r;obtain ⟨v,w,rfl,l,k⟩:=r;exact ⟨v,w,rfl,Wl k (j.set l) e q⟩
def PN {is:List Nat} {k:Nat} (h:PG X (.Tuple a k pos) (Hi X.K is.length (PM is))):FT X (.Tuple a k pos) (En is):=⟨_,h,fun m H d v j l c Q r f e q=>by
 unfold En at e;split at e
 ·rename_i n;simp only [DV] at r;obtain ⟨p,g,rfl,i,b⟩:=r;exact ⟨p,g,rfl,tq i,by rw [←b.len];exact Wk e,Wl b f e q⟩
 ·cases e⟩
end
variable {g:Str}
def PP {K:Frag} (h:wU K=true) {n:Str} (b:n∈wo):∃C,nsIn K mainGlobals n=some (some (.ref C)):=by
 unfold wU at h;split at h
 ·rename_i S c;have a:=qaT.mp h n b;cases e:E5 K n with
  |none=>rw [e] at a;cases a
  |some C=>exact ⟨C,V9 e⟩
 ·cases h
section
variable {X:Cx} {E:XK}
def j7 {x:Str} (e:wU X.K=true) (b:x∈wo) (c:Gl X x:=by rfl) (d:(x==("__debug__":Str))=false:=by decide):Ev X E (.Name x pos) (mC (.glo x)):=by obtain ⟨a,h⟩:=PP e b;exact jE c h d
def j8 {e:Expr} (j:wU X.K=true) (k:x∈wo) (b:x≠"TooMany") (l:Gl X x) (m:X.calm=true) (t:Pm X E) (o:CU X E (e::a) i)
 (d:(x==("__debug__":Str))=false:=by decide) (p:starEach (e::a) X.env=(false,eval e X.env)::starEach a X.env:=by rfl) (f:(backTo c (starEach (e::a) X.env)).any (·.1)=false:=by rfl):
 Ex X E (.Raise (some (.Call (.Name x n) (e::a) [] c)) none pos) (GI x i):=by
 obtain ⟨C,h⟩:=PP j k;exact iN ((My j k h).at_ b) h l m t o d p f
end
def CaM.mono {K:Frag} {j k:Nat} {F:TF} (C:CaM P w K m b x j F) (h:j≤k):CaM P w K m b x k F:=by obtain ⟨f,c,p,G,r⟩:=C.ex;exact ⟨f,c,p,⟨fun A o s H a u v Q d=>G.run A o s H a u v Q (d.mono h)⟩,r⟩
structure SaidD (K:Frag) (mg:Str→Option Value) (st:Stmt) (fs:Addr) (fd:FuncData):Prop where
 fn:Fun K "_law_said" "_law_said" st fs fd
 bd:Binds K fd ["_law_call"] []
 mg:mg "_law_said"=some (.ref fs)
end
def We {b:Type} (o:Out b) (Q:b→HD→Prop) (R:Str→List (Str×D)→HD→Prop):Prop:=match o with
 |.ok a h=>Q a h
 |.err (.str n _) fs h=>R n fs h
 |_=>False
section
variable {α β:Type} {o:Out α} {Q Q':α→HD→Prop} {R R':Str→List (Str×D)→HD→Prop}
@[simp] theorem CK (a:α) (h:HD):We (.ok a h) Q R=Q a h:=rfl
@[simp] theorem u5 (n:Str) (t:Tok) (fs:List (Str×D)) (h:HD):We (.err (.str n t) fs h:Out α) Q R=R n fs h:=rfl
@[simp] theorem u6:We .stuck Q R=False:=rfl
def Dp {k:α→HD→Out β} {Q:β→HD→Prop}:We (o.bind k) Q R=We o (fun a h=>We (k a h) Q R) R:=by
 cases o with
 |ok a h=>rfl
 |err C fs h=>cases C<;>rfl
 |stuck=>rfl
def Wp.we (h:Wp o Q):We o Q R:=by
 cases o with
 |ok a b=>exact h
 |_=>exact h.elim
def We.mono (h:We o Q R) (f:∀a h,Q a h→Q' a h) (g:∀n fs h,R n fs h→R' n fs h):We o Q' R':=by
 cases o with
 |ok a b=>exact f _ _ h
 |err C fs b=>cases C<;>first |exact g _ _ _ h |exact h.elim
 |stuck=>exact h
def Pu.we {a:α} (p:Pu o h a) (k:∀b,Sm h b→Q a b):We o Q R:=Wp.we (p.wp k)
end
def Er {a:Type} (o:Out a) (h:HD) (n:Str):Prop:=We o (fun _ _=>False) fun b fs c=>b=n∧fs=[]∧Sm h c
def Er.we {c:Type} {o:Out c} {Q:c→HD→Prop} {R:Str→List (Str×D)→HD→Prop} (e:Er o h n) (k:∀a,Sm h a→R n [] a):We o Q R:=We.mono e (fun _ _ z=>z.elim) fun d fs a b=>by obtain ⟨rfl,rfl,s⟩:=b;exact k a s
def DY {N:Nat} {g:MS} {d:List D} {R:Str→List (Str×D)→HD→Prop}:We (Al N g d h) Q R=We (g (d.map some++List.replicate (N - d.length) none) h) (Dj Q) R:=by
 unfold Al;cases o:g (d.map some++List.replicate (N - d.length) none) h with
 |ok a b=>obtain ⟨f,c⟩:=a;cases f<;>rfl
 |err C fs b=>cases C<;>rfl
 |stuck=>rfl
section
variable {ρ:Ag} {h:HD} {Q:Fl×Ag→HD→Prop} {QD:D→HD→Prop} {QB:Bool→HD→Prop} {R:Str→List (Str×D)→HD→Prop} {g g1 g2:MS} {f:ME} {t:MT} {fa:MA} {F:TF}
def PR (g2:MS) (Q:Fl×Ag→HD→Prop) (R:Str→List (Str×D)→HD→Prop):Fl×Ag→HD→Prop
 |(.nx,ρ),h=>We (g2 ρ h) Q R
 |y,h=>Q y h
@[simp] theorem Wm:PR g2 Q R (.nx,ρ) h=We (g2 ρ h) Q R:=rfl
@[simp] theorem u7 {d:D}:PR g2 Q R (.rt d,ρ) h=Q (.rt d,ρ) h:=rfl
@[simp] theorem DI:We (AM g1 g2 ρ h) Q R=We (g1 ρ h) (PR g2 Q R) R:=by
  unfold AM;rw [Dp]
  congr 1
  funext x c;obtain ⟨a,b⟩:=x;cases a<;>rfl
@[simp] theorem j9:We (AG ρ h) Q R=Q (.nx,ρ) h:=rfl
@[simp] theorem MC:We (AU f ρ h) Q R=We (f ρ h) (fun _ a=>Q (.nx,ρ) a) R:=by unfold AU;rw [Dp];rfl
@[simp] theorem u9:We (Ak f ρ h) Q R=We (f ρ h) (fun d a=>Q (.rt d,ρ) a) R:=by unfold Ak;rw [Dp];rfl
@[simp] theorem PU {i:Nat}:We (Am i f ρ h) Q R=We (f ρ h) (fun d a=>Q (.nx,ρ.set i (some d)) a) R:=by unfold Am;rw [Dp];rfl
@[simp] theorem HL:We (AC t g1 g2 ρ h) Q R=We (t ρ h) (fun b a=>We (if b=true then g1 ρ a else g2 ρ a) Q R) R:=by unfold AC;rw [Dp]
@[simp] theorem Jy:We (Ab F fa ρ h) QD R=We (fa ρ h) (fun d a=>We (F d a) QD R) R:=by unfold Ab;rw [Dp]
@[simp] theorem va {n:Str}:We (GI n fa ρ h) Q R=We (fa ρ h) (fun x a=>We (if x.length≤sizeLine then (.err (Fs n) [] a:Out (Fl×Ag)) else .stuck) Q R) R:=by unfold GI;rw [Dp]
@[simp] theorem vb:We (Cq t ρ h) QB R=We (t ρ h) (fun b a=>QB (!b) a) R:=by unfold Cq;rw [Dp];rfl
@[simp] theorem vc:We (B7 f ρ h) QB R=We (f ρ h) (fun x a=>We (Ef x a) QB R) R:=by unfold B7;rw [Dp]
@[simp] theorem HM:We (Aq f ρ h) QB R=We (f ρ h) (fun x a=>We (I0 x a) QB R) R:=by unfold Aq;rw [Dp]
@[simp] theorem HN {q:List D→HD→Prop}:We (Af ρ h) q R=q [] h:=rfl
@[simp] theorem Jz {q:List D→HD→Prop}:We (Ac f fa ρ h) q R=We (f ρ h) (fun x a=>We (fa ρ a) (fun b c=>q (x::b) c) R) R:=by unfold Ac;simp only [Dp];rfl
@[simp] theorem Fy {d:D} {r:Ag}:We (Ad 0 (some d::r) h) QD R=QD d h:=rfl
@[simp] theorem F0 {i:Nat} {x:Option D} {r:Ag}:We (Ad (i+1) (x::r) h) QD R=We (Ad i r h) QD R:=rfl
@[simp] theorem HP {d:D}:We (mC d ρ h) QD R=QD d h:=rfl
@[simp] theorem HQ {o:D→D→HD→Out D} {a:ME}:We (Aa o f a ρ h) QD R=We (f ρ h) (fun x b=>We (a ρ b) (fun y c=>We (o x y c) QD R) R) R:=by unfold Aa;simp only [Dp]
end
def Et {a:Type} (o:Out a) (h:HD) (n:Str) (fs:List (Str×D)):Prop:=We o (fun _ _=>False) fun b f c=>b=n∧f=fs∧Sm h c
def Et.we {c:Type} {o:Out c} {fs:List (Str×D)} {Q:c→HD→Prop} {R:Str→List (Str×D)→HD→Prop} (e:Et o h n fs) (k:∀a,Sm h a→R n fs a):We o Q R:=We.mono e (fun _ _ z=>z.elim) fun d fs a b=>by obtain ⟨rfl,rfl,s⟩:=b;exact k a s
section
variable {h:HD} {i j:Int} {ds:List D} {a b:D} {l:Nat} {x y:Str}
@[simp] theorem vd:Bt (.str x) (.str y) h=.ok (.bl (!(x==y))) h:=rfl
@[simp] theorem vf:Az (.str x) (.str y) h=.ok (.bl (x==y)) h:=rfl
@[simp] theorem vg:Bt (.int i) (.int j) h=.ok (.bl (!(i==j))) h:=rfl
@[simp] theorem ka:Az (.int i) (.int j) h=.ok (.bl (i==j)) h:=rfl
@[simp] theorem vh {c d:Bool}:Bt (.bl c) (.bl d) h=.ok (.bl (!(c==d))) h:=rfl
@[simp] theorem vj {c d:Bool}:Az (.bl c) (.bl d) h=.ok (.bl (c==d)) h:=rfl
@[simp] theorem vk {e:List D}:Bt (.tup ds) (.tup e) h=Fg (.tup ds) (.tup e) h:=rfl
@[simp] theorem vm {e:List D}:Az (.tup ds) (.tup e) h=Hr (.tup ds) (.tup e) h:=rfl
@[simp] theorem kb:BU (.int i) (.int j) h=DU (.int i) (.int j) h:=rfl
@[simp] theorem Wn:BU (.loc l) b h=DU (.loc l) b h:=rfl
@[simp] theorem vn:AZ (.int i) b h=B1 (.int i) b h:=rfl
@[simp] theorem vp {c:Bool}:AZ (.bl c) b h=B1 (.bl c) b h:=rfl
@[simp] theorem vq:AZ .non b h=B1 .non b h:=rfl
@[simp] theorem vr:AZ (.str x) b h=B1 (.str x) b h:=rfl
@[simp] theorem vt:AZ (.tup ds) b h=B1 (.tup ds) b h:=rfl
@[simp] theorem kc:AZ (.loc l) b h=B1 (.loc l) b h:=rfl
@[simp] theorem vu {c:Bool}:B1 (.bl c) (.ty "int") h=.ok (.bl true) h:=rfl
@[simp] theorem vw {c:Bool}:B1 (.bl c) (.ty "bool") h=.ok (.bl true) h:=rfl
@[simp] theorem vz {c:Bool}:B1 (.bl c) (.ty "tuple") h=.ok (.bl false) h:=rfl
@[simp] theorem vA:B1 .non (.ty "int") h=.ok (.bl false) h:=rfl
@[simp] theorem vB:B1 .non (.ty "tuple") h=.ok (.bl false) h:=rfl
@[simp] theorem vC:B1 (.str x) (.ty "int") h=.ok (.bl false) h:=rfl
@[simp] theorem vD:B1 (.str x) (.ty "tuple") h=.ok (.bl false) h:=rfl
def kd (e:h[l]?=some (.lst ds)):B1 (.loc l) (.ty "int") h=.ok (.bl false) h:=by simp only [B1,EU,e];rfl
def ke (e:h[l]?=some (.lst ds)):B1 (.loc l) (.ty "tuple") h=.ok (.bl false) h:=by simp only [B1,EU,e];rfl
@[simp] theorem vE:AZ .edic (.ty "int") h=.ok (.bl false) h:=rfl
@[simp] theorem vF:AZ .edic (.ty "tuple") h=.ok (.bl false) h:=rfl
def Fz {fs:List (Str×Int)} (d:n∈wo) (e:c∈wo):AZ (.exc n fs) (.glo c) h=.ok (.bl (B6 n c)) h:=if_pos ⟨d,e⟩
def kf {fs:List (Str×Int)} (c:n∈wo):AZ (.exc n fs) (.ty "ValueError") h=.ok (.bl true) h:=if_pos ⟨c,rfl⟩
@[simp] theorem vG {e:Ag} {c d:D} {i j k l:Nat}:En [i,j,k,l] (.tup [a,b,c,d]) e=some ((((e.set i (some a)).set j (some b)).set k (some c)).set l (some d)):=rfl
def kg (c:x.length+y.length≤1000):Ao (.str x) (.str y) h=.ok (.str (x++y)) h:=by simp only [Ao];rw [if_pos (by unfold sizeLine;omega)]
def MD {k:Nat} (e:h[l]?=some (.lst c)) (f:h[k]?=some (.lst d)):Ao (.loc l) (.loc k) h=BG (c++d) h:=by simp only [Ao,e,f]
def kh (e:h[l]?=some (.lst ds)) (c:Bp (ds.map C2)=some vs) (d:C2 a=some w):HJ (.loc l) a h=.ok (.int (Jv w vs)) h:=by simp only [HJ,CI,e,Out.bind_ok,KJ,BB,c,d]
def ki {j:Nat} (e:h[l]?=some (.lst ds)) (c:Bp (ds.map C2)=some v) (d:C2 a=some w) (f:Mz w v=some j):HK (.loc l) a h=.ok (.int j) h:=by simp only [HK,e,c,d,f]
@[simp] theorem JA {c:D→HD→Out D} {o:D→D→HD→Out D} {f g:ME} {d:Ag} {Q:D→HD→Prop}:Wp (Ck c o f g d h) Q=Wp (f d h) fun x e=>Wp (c x e) fun x k=>Wp (g d k) fun y m=>Wp (o x y m) Q:=by unfold Ck;simp only [AL]
@[simp] theorem vH:(6≤sizeLine)=True:=eq_true (by unfold sizeLine;omega)
@[simp] theorem vI:(8≤sizeLine)=True:=eq_true (by unfold sizeLine;omega)
@[simp] theorem vJ:(9≤sizeLine)=True:=eq_true (by unfold sizeLine;omega)
@[simp] theorem vK:(10≤sizeLine)=True:=eq_true (by unfold sizeLine;omega)
end
section
variable {X:Cx} {E:XK}
def MF:D→HD→Out D:=fun x h=>match BB x h with
 |some d=>BG d h
 |none=>.stuck
def kj:C1 X (.type "list") (Ai MF):=by
 refine ⟨_,eL,fun m H h E j k Q a r q=>Fi r q fun d v b c q=>?_⟩;unfold MF at q;split at q
 ·rename_i f e;obtain ⟨p,w,rfl,g,i⟩:=Kt a c e;exact ⟨p,w,b,g,(Gu a i q).2⟩
 ·exact q.elim
def CaE.mono {K:Frag} {j k:Nat} {F:TF} (C:CaE P w K m b x j F) (h:j≤k):CaE P w K m b x k F:=by obtain ⟨f,a,p,G,r⟩:=C.ex;exact ⟨f,a,p,G.mono h,r⟩
end
section
variable {X:Cx} {E:XK}
def kl (K:Frag):V→Option Int→Option Int→Hp→VK→Prop:=fun x lo h H Q=>∃a b,x=.ref a∧SqT K H a b∧HT.sIx b.length 0 lo=0∧HT.sIx b.length b.length h=b.length∧Q (.ref a) H
def sl_whole:SlR X (kl X.K):=by
 rintro p s g H x v z A lo d j Q I k e l m ⟨a,n,rfl,o,w,f,q⟩;cases k;obtain ⟨i,r,h,B⟩:=I.tuple o;have t:i.toArray.size=n.length:=by rw [Bh];exact r.length.symm
 rw [←t] at w f;obtain ⟨os,b,c,u⟩:=id e;refine ⟨"tuple",_,slot_tuple_getitem.lookup,h.typeIs,?_⟩;unfold getItem
 try with_reducible refine DN ?_
 first |refine Aj (AD ?_) |skip
 refine Aj (wpAny_sequenceKey h.typeIs (by decide) (Aj (wpAny_callSpecial?_slot (name:=Str.ofString "__getitem__") h.typeIs slot_tuple_getitem
  (wpAny_call_entry slot_tuple_getitem h.typeIs entry_tuple_getitem ?_ (args_tuple_getitem _ _)))))
 show wpAny _ _ (Builtin.Tuple.tupleItemsOf (.ref a) >>=_) _ _ s
 refine Aj (tupleItemsOf_ h (Aj (wpAny_typeOf (show s.TypeIs (.ref j) "slice" from ⟨os,b,c⟩) ?_)));rw [if_pos (by decide)];refine Aj (HT.sliceApplied_gen e l m ?_);have y:(((HT.sIx i.toArray.size 0 lo:Nat):Int)==0&&(1:Int)==1&&(HT.sIx i.toArray.size i.toArray.size d - HT.sIx i.toArray.size 0 lo)==i.toArray.size)=true:=by rw [w,f];simp
 show wpAny _ _ (if (((HT.sIx i.toArray.size 0 lo:Nat):Int)==0&&(1:Int)==1&&(HT.sIx i.toArray.size i.toArray.size d - HT.sIx i.toArray.size 0 lo)==i.toArray.size)=true then _ else _) _ _ s
 rw [if_pos y];unfold Builtin.Tuple.tupleIsExact;refine Aj (Aj (wpAny_typeOf h.typeIs (AD ?_)));rw [if_pos (by decide)];refine Aj (wpAny_rule ?_);have AQ:EP X p g Q (.ref a) s:=⟨.ref a,H,I,rfl,q⟩
 first
  |exact AD ⟨_,rfl,AD AQ⟩
  |exact AD AQ
def HU (x:D) (lo a:Option Int) (h:HD):Out D:=match x with
 |.tup b=>.ok (.tup (cutD b lo a)) h
 |_=>.stuck
def F4 (f:ME) (lo b:MO):ME:=fun a h=>(f a h).bind fun x c=>(lo a c).bind fun l d=>(b a d).bind fun u e=>HU x l u e
def km {a:Type} {x:List a} {lo h:Option Int} (b:HT.sIx x.length 0 lo=0) (c:HT.sIx x.length x.length h=x.length):(x.drop (HT.sIx x.length 0 lo)).take (HT.sIx x.length x.length h - HT.sIx x.length 0 lo)=x:=by rw [b,c];simp
def kn {lo z:Option Expr} {A B:MO} (L:Ev X E e f) (M:Jo X E lo A) (N:Jo X E z B):Ev X E (.Subscript e (.Slice lo z none g) pos) (F4 f A B):=
 BR (UL (sl_whole.or dW) L M N) fun σ H Q ⟨m,j,h,O,k,p⟩=>⟨m,j,h,O,k,wa.bind p fun x P v R H1 n C F o S T=>
  ⟨R,j,P,o,k.keep C F,wa.bind T fun l U l' W H2 r g G s Y Z=>
    ⟨W,j,U,s,(k.keep C F).keep g G,wa.bind Z fun u h3 u' m3 H3 t p3 k3 d r3 q=>by
      clear n r t;subst Y r3;have w:=DV.keep p3 k3 (DV.keep g G S);unfold HU at q;split at q
      ·rename_i b;have y:=w;simp only [DV] at w;obtain ⟨a,I,rfl,J,i⟩:=w
       by_cases c:HT.sIx b.length 0 l=0∧HT.sIx b.length b.length u=b.length
       ·refine .inl ⟨a,I,rfl,tq J,by rw [←i.len];exact c.1,by rw [←i.len];exact c.2,?_⟩;have e:cutD b l u=b:=km c.1 c.2;rw [e] at q;exact q (.ref a) m3 H3 (AI _) (.refl _) d y
       ·rw [i.len] at c;exact .inr ⟨a,I,rfl,tq J,c,Ho d (i.cut l u) q⟩
      ·exact q.elim⟩⟩⟩
def PV {x:List D} {k:Nat} (hk:k≤x.length):HU (.tup x) none (some (k:Int)) h=.ok (.tup (x.take k)) h:=by simp only [HU];unfold cutD;rw [HT.sIx_nat,HT.sIx_none,Lw,show min k x.length - 0=k from by omega]
def PX {x:List D} {k:Nat} {i:Int} (a:i=((k+1:Nat):Int)) (hk:k<x.length):HU (.tup x) (some i) none h=.ok (.tup (x.drop (k+1))) h:=by
 subst a;simp only [HU];unfold cutD;rw [HT.sIx_nat,HT.sIx_none,show min (k+1) x.length=k+1 from by omega]
 congr 2
 exact J5 (by simp)
end
section
variable {f:ME} {lo hi:MO} {ρ:Ag} {h:HD} {Q:D→HD→Prop}
@[simp] theorem vL:Wp (F4 f lo hi ρ h) Q=Wp (f ρ h) fun x a=>Wp (lo ρ a) fun l b=>Wp (hi ρ b) fun u c=>Wp (HU x l u c) Q:=by unfold F4;simp only [AL]
end
section
variable {K:Frag} {mg:Str→Option Value} {h:Heap}
def ko {u:List Value} (h:u.length=0):u=[]:=List.length_eq_zero_iff.mp h
def kq {u:List Value} (h:u.length=1):∃a,u=[a]:=by
 cases u with
 |nil=>cases h
 |cons v t=>obtain rfl:=ko (Nat.succ.inj h);exact ⟨v,rfl⟩
def kr {x j:Str} {st:Stmt} {f:Addr} {m:Value} {n g:Option Addr} {o:Array (Option Value)} {kV e p d i:Value} (X:K.In h) (G:h.Ns mainGlobals mg) (l:K.lookup f=some ⟨m,n,.func (fnOf x x (wq st) (wh st) (wb st) .none kV e p g d i),o⟩) (c:codeIn K d x=true) (k:keepIn K (.ref f)=true) (a:nsIn K mainGlobals x=some (some (.ref f)))
 (b:∀(kV e p:Value) (g:Option Addr) (d i v:Value),bindArgs (fnOf x x (wq st) (wh st) (wb st) .none kV e p g d i) ⟨[v],[]⟩=pure (([j]:List Str).zip [v])):Dn K mg x [j] st f (fnOf x x (wq st) (wh st) (wb st) .none kV e p g d i):=
 ⟨IX l c k,(IX l c k).binds (fun kV e p g d i u q=>by obtain ⟨v,rfl⟩:=kq q;exact b kV e p g d i v),mg_of X G a⟩
def SaidD.of {st:Stmt} (d:Dn K mg "_law_said" ["_law_call"] st f a):SaidD K mg st f a:=⟨d.fn,d.bd,d.mg⟩
end
section
variable {X:Cx} {E:XK}
mutual
def ku:PyData→Bool
 |.list _=>false
 |.tuple x=>Wo x
 |_=>true
def Wo:List PyData→Bool
 |[]=>true
 |x::a=>ku x&&Wo a
end
variable {pins:PQ} {σ:L2.St} {H:Hp} {s:Shared} {m:List Addr} {h:HD}
end
noncomputable def PY (i j k:Nat):MG:=fun d a=>match d with
 |.tup [x,.tup [y,z]]=>some (((a.set i (some x)).set j (some y)).set k (some z))
 |_=>none
abbrev kv (K:Frag) (i j k:Nat):TG:=Hi K 2 (DG (CH i) (DG (Hi K 2 (DG (CH j) (DG (CH k) Gk))) Gk))
def Wq {K:Frag} {cs:List (Option Nat)} {i j k:Nat} (h:cs[i]?=some none) (b:cs[j]?=some none) (c:cs[k]?=some none):GA K cs (kv K i j k) (PY i j k):=fun m H d v A f g Q r l e q=>by
 unfold PY at e;split at e
 ·cases e;simp only [DV,DVs] at r;obtain ⟨p,B,rfl,n,o,C,rfl,s,E,F,rfl,⟨t,u,rfl,a,w,G,rfl,x,y,I,rfl,z,rfl⟩,rfl⟩:=r;exact ⟨p,_,rfl,tq n,rfl,o,_,rfl,_,_,rfl,⟨t,_,rfl,tq a,rfl,w,_,rfl,y,_,rfl,rfl,rfl,q _ ((((Sub.refl _).set h).set b).set c) (((l.set s).set x).set z)⟩⟩
 ·cases e
noncomputable def DB (b:Expr) (a:List Comprehension) (s:Scope) (pos:Pos) (d:Nat) (c:Value) (e:Env):Sem Unit:=match a[d+1]? with
 |some g=>eval g.iter e >>=fun x=>standAt g.iter.pos >>=fun _=>foldedSetIterable g.iter e x >>=fun y=>holding [y] (pyIter y) >>=fun i=>runOwn (.compStart (.ListComp b a s pos) (d+1) i c e) e >>=fun _=>pure ()
 |none=>eval b e >>=fun x=>call (.builtin "list.append") [c,x] >>=fun _=>pure ()
def ky {i t iter:Expr} {f:List Comprehension} {d:Nat} (n:f[d]?=some ⟨t,iter,l,0⟩) (o:∀g,f[d+1]?=some g→g.is_async=0):
 compTurn (.ListComp i f s pos) d m j h=standAt iter.pos >>=fun _=>pyNext m >>=fun r=>match r with
  |none=>pure (.done .next)
  |some v=>letOwnedTupleGo t m v >>=fun _=>assign t h v >>=fun _=>(forIn l true fun c r=>if r=true then do let ok ←isTrue c h (eval c h);pure (ForInStep.yield ok) else pure (ForInStep.yield r)) >>=fun ok=>if ok=true then DB i f s pos d j h >>=fun _=>again (.compLoop (.ListComp i f s pos) d m j h) else again (.compLoop (.ListComp i f s pos) d m j h):=by
 unfold compTurn DB;simp only [n];cases e:f[d+1]? with
 |none=>rfl
 |some g=>obtain ⟨a,b,c,k⟩:=g;have:k=0:=o _ e;subst this;simp only [bind_assoc,pure_bind];rfl
section
variable {prog:Program} {w:World} {A:Around} {R:Result→Shared→Prop} {s:Shared} {elt tg iter:Expr} {gens:List Comprehension} {ifs:List Expr} {scope:Scope} {pos:Pos} {d:Nat} {it acc:Value} {env:Env}
def kz (t:gens[d]?=some ⟨tg,iter,ifs,0⟩) (u:∀g,gens[d+1]?=some g→g.is_async=0) (I:Nat→Shared→Prop)
 (turn:∀n s,I n s→wpAny (model prog w) A (pyNext it) (fun r a=>match r with
  |none=>R (.ok .next) a
  |some v=>wpAny (model prog w) A (letOwnedTupleGo tg it v) (fun _ b=>wpAny (model prog w) A (assign tg env v) (fun _ i=>
   wpAny (model prog w) A (forIn ifs true fun c r=>if r=true then do let ok ←isTrue c env (eval c env);pure (ForInStep.yield ok) else pure (ForInStep.yield r)) (fun ok e=>if ok=true then wpAny (model prog w) A (DB elt gens scope pos d acc env) (fun _ j=>∃m,m<n∧I m j) (fun _ _=>False) e else ∃m,m<n∧I m e) (fun _ _=>False) i) (fun _ _=>False) b) (fun _ _=>False) a) (fun _ _=>False) s)
 (n:Nat) (h:I n s):codeAny (model prog w) A (.compLoop (.ListComp elt gens scope pos) d it acc env) R s:=by
 refine codeAny_loop rfl I (fun n s y=>?_) n h
 show wpAny _ A ((compTurn (.ListComp elt gens scope pos) d it acc env).onRaise (fun x=>do noteFrame x env;theTreesLotGoes x)) _ _ s
 refine wpAny_noted ?_;rw [ky t u];refine Aj (wpAny_standAt (Aj (Bm (turn n s y) (fun r a k=>?_) fun _ _ f=>f.elim)));cases r with
 |none=>exact AD k
 |some v=>
  refine Aj (Bm k (fun _ b o=>?_) fun _ _ f=>f.elim);refine Aj (Bm o (fun _ i p=>Aj (Bm p (fun ok e l=>?_) fun _ _ f=>f.elim)) fun _ _ f=>f.elim);cases ok with
  |false=>exact AD ⟨rfl,l⟩
  |true=>exact Aj (Bm l (fun _ j q=>AD ⟨rfl,q⟩) fun _ _ f=>f.elim)
def Wr (c:gens[d]?=some ⟨tg,iter,ifs,0⟩)
 (a:codeAny (model prog w) A (.compLoop (.ListComp elt gens scope pos) d it acc env) R s)
 (h:wpAny (model prog w) A (pyIter it) (fun i b=>codeAny (model prog w) A (.compLoop (.ListComp elt gens scope pos) d i acc env) R b) (fun _ _=>False) s):
 codeAny (model prog w) A (.compStart (.ListComp elt gens scope pos) d it acc env) R s:=by
 refine codeAny_of_tree ?_
 show wpAny _ _ ((compStart (.ListComp elt gens scope pos) d it acc env).onRaise (fun x=>do noteFrame x env;standAt theWindowsPlace)) _ _ s
 refine wpAny_notedAt ?_;have e:(clausesOf (.ListComp elt gens scope pos))[d]?=some ⟨tg,iter,ifs,0⟩:=c;unfold compStart;rw [e]
 show wpAny _ _ (ask >>=_) _ _ s
 refine Aj (wpAny_askSetting (wpAny_ite ?_));split
 ·first
   |exact Aj (AD (AD ⟨rfl,a⟩))
   |exact AD ⟨rfl,a⟩
 ·refine Aj (wpAny_rule ?_)
  show wpAny _ _ (standAt iter.pos >>=_) _ _ s
  exact Aj (wpAny_standAt (Aj (Bm h (fun i b f=>AD ⟨rfl,f⟩) fun _ _ x=>x.elim)))
end
abbrev C5 (i:List Value) (k:Nat):Obj:={cls:=.type "list",data:=.seq i.toArray k}
structure HV (X:Cx) (D:Addr):Prop where
 lo:D≠X.env.locals
 ce:∀x c,X.env.cells.lookup x=some c→c≠D
 pn:∀p∈X.pn,p.1≠D
 ex:D∈X.ex
 fs:D∉X.fs
section
variable {X:Cx} {D:Addr} {its its':List Value} {k k':Nat} {rest:PQ} {σ:L2.St} {H:Hp} {s:Shared} {h':Heap}
def Inv.repin (a:HV X D) (I:Inv X ((D,C5 its k)::rest) σ H s) (d:∀p∈rest,p.1≠D) (f:Heap.SameBut D s.heap h') (e:h'.get? D=some (C5 its' k')):Inv X ((D,C5 its' k')::rest) σ H {s with heap:=h'}:=by
 have c:=(I.pin _ (BA _ AX)).2.1;have g:Inv X rest σ H s:=I.pins_of fun p h=>I.pin p (BA _ (A2 _ h));have i:Inv X rest σ H {s with heap:=h'}:=g.turned (t':=s.toks) (it:=D) (fun b o j e=>(f.2 b j).trans e) c a.lo (.inl a.ex) a.ce fun p h=>by
  rcases qb1.mp h with z |z
  ·exact a.pn p z
  ·exact d p z
 refine i.pins_of fun p h=>?_;rcases qa6.mp h with rfl |z
 ·exact ⟨e,c,a.lo,a.fs,fun v z=>by cases z⟩
 ·exact i.pin p (BA _ z)
def EM (X:Cx) (D:Addr) (em:Sem Unit) (te:L2.St→Hp→List V→(List V→Hp→Prop)→Prop):Prop:=
 ∀(rest:PQ) (its:List Value) (k:Nat) (b:List V) (σ:L2.St) (H:Hp) (s:Shared) (Q:List V→Hp→Prop),Inv X ((D,C5 its k)::rest) σ H s→(∀p∈rest,p.1≠D)→Vals b its→te σ H b Q→
  wpAny (model X.prog X.w) X.A em (fun _ c=>∃its' k' a h,Inv X ((D,C5 its' k')::rest) σ h c∧Vals a its'∧Q a h) (fun _ _=>False) s
def Ws (t:TE):L2.St→Hp→List V→(List V→Hp→Prop)→Prop:=fun σ H a Q=>a.length<sizeLine∧t σ H fun y h=>Q (a++[y]) h
def kA {g:List Comprehension} {d:Nat} (j:HV X D) (x:X.xe=fun _ _=>False) (l:g[d+1]?=none) (p:PE X e t):EM X D (DB e g a pos d (.ref D) X.env) (Ws t):=by rintro rest its k b σ H s Q I m r ⟨C,h⟩;unfold DB;rw [l];have z:=p _ s σ H _ I h;rw [x] at z;refine Aj (Bm z (fun y E n=>?_) fun _ _ z=>z.elim);obtain ⟨o,q,i,u,v⟩:=n;obtain ⟨w,F,_⟩:=i.pin _ (BA _ AX);have f:=r.length;refine Aj (wpAny_list_append_plain ⟨k,w⟩ (fun h' A B=>?_) (by rw [Bh];omega));obtain ⟨k',c⟩:=A;refine AD ⟨its++[y],k',b++[o],q,Inv.repin j i m B (by rw [c];simp [C5]),r.append (.cons u .nil),v⟩
def kB {h:Hp} (f:Dx X ((D,o)::rest) H b) (n:h b=none):Dx X ((D,c)::rest) h b:=by
 obtain ⟨_,d,e,g,i,a⟩:=f;refine ⟨n,d,e,g,i,fun p j=>?_⟩;rcases qb1.mp j with z |z
 ·exact a p (G4 _ z)
 ·rcases qa6.mp z with rfl |z
  ·exact a (D,o) (BA _ AX)
  ·exact a p (BA _ (A2 _ z))
def Wt (w:TI) (g:TG) (t:TT) (j:L2.St→Hp→List V→(List V→Hp→Prop)→Prop):L2.St→Hp→List V→(List V→Hp→Prop)→Prop:=fun σ H a Q=>w σ H fun J l=>∃W:Nat→Nat→List V→Hp→Prop,(∃n,W 0 n a l)∧∀i n a H,W i n a H→
 (J.stop i H∧Q a H)∨
 (J.go i H∧∀x h,J.yld i H x h→g x σ h fun c m=>Sub σ c∧t c m fun b f=>if b=true then j c f a fun d o=>∃e,e<n∧W (i+1) e d o else ∃e,e<n∧W (i+1) e a f)
inductive PZ (X:Cx) (D:Addr) (rest:PQ) (σ:L2.St) (W:Nat→Nat→List V→Hp→Prop) (tn:Nat→Heap→Prop) (fp:List Addr) (n:Nat) (s':Shared):Prop where
 |mk (i:Nat) (acc:List V) (H':Hp) (its:List Value) (k:Nat) (w:W i n acc H') (ii:Inv X ((D,C5 its k)::rest) σ H' s') (st:tn i s'.heap) (fr:∀b∈fp,H' b=none) (rv:Vals acc its):PZ X D rest σ W tn fp n s'
def Wu {L tg iter:Expr} {gens:List Comprehension} {d:Nat} {g:TG} {tc:TT} {te:L2.St→Hp→List V→(List V→Hp→Prop)→Prop} {R:Result→Shared→Prop} {c:List Addr} {tn:Nat→Heap→Prop} {J:It} {W:Nat→Nat→List V→Hp→Prop} {QQ:List V→Hp→Prop} 
 (xe:X.xe=fun _ _=>False) (xc:X.calm=true) (hg:gens[d]?=some ⟨tg,iter,M,0⟩) (ha:∀g,gens[d+1]?=some g→g.is_async=0) (pg:PG X tg g) (pt:FU X M tc) (em:EM X D (DB L gens m pos d (.ref D) X.env) te)
 (T:FP X.prog X.w X.K tg J c it tn) (f:∀b∈c,∀o q,q b=none→Dx X ((D,o)::rest) q b) (hr:∀p∈rest,p.1≠D)
 (turn:∀i n a H,W i n a H→(J.stop i H∧QQ a H)∨
  (J.go i H∧∀x q,J.yld i H x q→g x σ q fun B H2=>Sub σ B∧tc B H2 fun b H3=>if b=true then te B H3 a fun t H4=>∃w,w<n∧W (i+1) w t H4 else ∃w,w<n∧W (i+1) w a H3))
 (AQ:∀its k a q s',Inv X ((D,C5 its k)::rest) σ q s'→Vals a its→QQ a q→R (.ok .next) s') (n:Nat) (h:PZ X D rest σ W tn c n s):
 codeAny (model X.prog X.w) X.A (.compLoop (.ListComp L gens m pos) d (.ref it) (.ref D) X.env) R s:=by
 refine kz hg ha (PZ X D rest σ W tn c) ?_ n h;rintro n s5 ⟨i,a,Z,its,k,w5,I5,N,O,C⟩;have fk:∀{q:Hp},(∀b∈c,q b=none)→∀b∈c,Dx X ((D,C5 its k)::rest) q b:=fun hn b l=>f b l _ _ (hn b l);rcases turn i n a Z w5 with ⟨P,qn⟩ |⟨go,step⟩
 ·refine Bm (T.done X rfl rfl rfl xc i _ s5 σ Z (fun _ _=>False) I5 (fk O) N P) (fun r s6 z=>?_) fun _ _ z=>z;obtain ⟨rfl,I6⟩:=z;exact AQ its k a Z s6 I6 C qn
 ·refine Bm (T.item X rfl rfl rfl xc i _ s5 σ Z (fun _ _=>False) I5 (fk O) N go) (fun r s6 z=>?_) fun _ _ z=>z;obtain ⟨u,rfl,h6⟩:=z;refine Bm h6 (fun _ I z=>?_) fun _ _ z=>z;obtain ⟨x,H7,I7,r7,y7,E,Q⟩:=z;have I7':Inv X ((D,C5 its k)::(rest++Gm c I.heap)) σ H7 I:=I7.pinned (fp:=c) (fk Q) (T.obj _ _ E);have hr':∀p∈rest++Gm c I.heap,p.1≠D:=fun p hp=>by
   rcases qb1.mp hp with z |z
   ·exact hr p z
   ·obtain ⟨l,_⟩:=Us z;exact Ne.symm ((f p.1 l (C5 its k) H7 (Q p.1 l)).2.2.2.2.2 (D,C5 its k) (BA _ AX))
  have z2:=pg _ I σ H7 x u _ I7' r7 (step x H7 y7);rw [xe] at z2;refine Bm z2 (fun _ s8 z=>?_) fun _ _ z=>z;obtain ⟨F,H8,I8,y,q8⟩:=z;have z3:=pt _ s8 F H8 _ I8 q8;rw [xe] at z3;refine Bm z3 (fun ok s9 z=>?_) fun _ _ z=>z;obtain ⟨H9,I9,q9⟩:=z;have A:∀{S:Shared} {U:Hp} {its':List Value} {k':Nat},Inv X ((D,C5 its' k')::(rest++Gm c I.heap)) F U S→
   Inv X ((D,C5 its' k')::rest) σ U S∧tn (i+1) S.heap∧∀b∈c,U b=none:=fun {S U its' k'} Iy=>by
   have at_:∀b∈c,∀o,I.heap.get? b=some o→S.heap.get? b=some o∧U b=none:=fun b l o e=>by obtain ⟨z1,z2,_⟩:=Iy.pin (b,o) (BA _ (A2 _ (BA _ (Kk l e))));exact ⟨z1,z2⟩
   refine ⟨(Iy.pins_of fun p hp=>Iy.pin p (BA _ ?_)).weak y.1 fun j v z=>y.2 j v z,T.keep _ _ _ E fun b l o e=>(at_ b l o e).1,fun b l=>?_⟩
   ·rcases qa6.mp hp with rfl |z
    ·exact AX
    ·exact A2 _ (G4 _ z)
   ·obtain ⟨o,e,_⟩:=T.obj _ _ E b l;exact (at_ b l o e).2
  cases ok with
  |false=>simp only [Cz,if_false] at q9 ⊢;obtain ⟨w,G,w'⟩:=q9;obtain ⟨a1,a2,a3⟩:=A I9;exact ⟨w,G,i+1,a,H9,its,k,w',a1,a2,a3,C⟩
  |true=>simp only [if_true] at q9 ⊢;refine Bm (em _ its k a F H9 s9 _ I9 hr' C q9) (fun _ s10 z=>?_) fun _ _ z=>z;obtain ⟨its',k',t,H10,I10,Y,w,G,w'⟩:=z;obtain ⟨a1,a2,a3⟩:=A I10;exact ⟨w,G,i+1,t,H10,its',k',w',a1,a2,a3,Y⟩
def kC {j t iter:Expr} {a:List Comprehension} {d:Nat} {B:TI} {g:TG} {C:TT} {E:L2.St→Hp→List V→(List V→Hp→Prop)→Prop} 
 (F:X.xe=fun _ _=>False) (L:X.calm=true) (u:a[d+1]?=some ⟨t,iter,m,0⟩) (M:∀g,a[d+1+1]?=some g→g.is_async=0) (N:PI X t iter B) (O:PG X t g) (pt:FU X m C) (em:EM X D (DB j a i pos (d+1) (.ref D) X.env) E)
 (v:∀x,foldedSetIterable iter X.env x=pure x):EM X D (DB j a i pos d (.ref D) X.env) (Wt B g C E):=by
 rintro rest its k w σ H s Q I P S h;unfold DB;rw [u];have z:=N _ s σ H _ I h;rw [F] at z;refine Aj (Bm z (fun U s1 Y=>?_) fun _ _ z=>z);refine Aj (wpAny_standAt (Aj (wpAny_of_eq (v U) ?_)));refine Aj (DN (Bm Y (fun Z s2 h2=>?_) fun _ _ z=>z));obtain ⟨it,fp,tn,J,H2,e,I2,T,n,G,W,⟨n0,w0⟩,turn⟩:=h2;subst e;refine Aj (wpAny_runOwn ?_);rw [Around.mark_none];have l:=Wu (R:=fun r p=>match r with |.ok f=>wpAny (model X.prog X.w) X.A (pure ()) (fun _ p=>∃its' k' c q,Inv X ((D,C5 its' k')::rest) σ q p∧Vals c its'∧Q c q) (fun _ _=>False) p |.error e=>cameBackBy (model X.prog X.w) X.A X.env (fun _ _=>False) e p)
  F L u M O pt em T (fun b y o q hn=>kB (G b y) hn) P turn (fun its' k' c q p I' A q'=>AD ⟨its',k',c,q,I',A,q'⟩) n0 ⟨0,w,H2,its,k,w0,I2,n,fun b y=>(G b y).1,S⟩
 exact Wr u l (T.self X.A 0 s2 _ _ n l)
end
def P0 (h:List (Option Nat)) (w:TI) (g:TG) (t:TT) (l:L2.St→Hp→List V→(List V→Hp→Prop)→Prop):TE:=fun f H Q=>w f H fun J m=>∃W:Nat→Nat→List V→Hp→Prop,(∃n,W 0 n [] m)∧∀i n a H,W i n a H→
 (J.stop i H∧a.length≤sizeLine∧∀p,H p=none→Q (.ref p) (Av H p (.lst a)))∨
 (J.go i H∧∀x j,J.yld i H x j→g x (BL h f) j fun c o=>Sub (BL h f) c∧t c o fun b k=>if b=true then l c k a fun d q=>∃e,e<n∧W (i+1) e d q else ∃e,e<n∧W (i+1) e a k)
section
variable {X:Cx} {elt tg iter:Expr} {ifs:List Expr} {gs:List Comprehension} {scope:Scope} {pos:Pos} {Nc:List Str} {cs:List (Option Nat)} {wi:TI} {g:TG} {tc:TT} {te:L2.St→Hp→List V→(List V→Hp→Prop)→Prop}
def kE {use:Option (Value→Sem Unit)} {f:PQ} {Q:VK} (G:X.calm=true) (S:FV X scope Nc cs) (hi:PI X tg iter wi) (ha:∀g,gs[0]?=some g→g.is_async=0)
 (q:∀(C D:Addr) (a:List (Str×Addr)) (l:List Addr) (m:Shared) (n:Hp) (f:PQ),HV (Bc X Nc scope C D a l m n f) D→PG (Bc X Nc scope C D a l m n f) tg g∧FU (Bc X Nc scope C D a l m n f) ifs tc∧
  EM (Bc X Nc scope C D a l m n f) D (DB elt (⟨tg,iter,ifs,0⟩::gs) scope pos 0 (.ref D) (Bc X Nc scope C D a l m n f).env) te)
 (hsf:∀x,foldedSetIterable iter X.env x=pure x) (I:Inv X f P H s) (h:P0 cs wi g tc te P H Q)
 (AQ:∀(N:Shared) (C D:Addr) (H7:Hp) (m6:Str→Option Value),N.heap.Ns C m6→H7 C=none→X.s₀.heap.objs.size≤C→C≠X.env.locals→(∀x c,X.env.cells.lookup x=some c→c≠C)→(∀p∈X.pn++f,p.1≠C)→
  (∀h',Heap.SameBut C N.heap h'→Inv X f P H7 {N with heap:=h'})→Q (.ref D) H7→compPost (model X.prog X.w) X.A X.xe use QQ (.ref D) C (.ok .next) N):
 wpAny (model X.prog X.w) X.A (comprehension (.ListComp elt (⟨tg,iter,ifs,0⟩::gs) scope pos) scope X.env O (newList []) false (eval iter X.env) use) QQ X.xe s:=by
 obtain ⟨cl,L,hcl,U⟩:=Vf (scope:=scope) (env:=X.env) fun y hy hf=>I.ok.has y.1 (S.free y hy hf);refine wpAny_comprehension_free (use:=use) rfl hsf L S.kind S.loc (Ap (hi f s P H _ I h) fun xv s1 h1=>Ap h1 fun itv i h2=>?_);obtain ⟨it,l,tn,J,u,e,B,T,Y,f2,W,⟨n0,w0⟩,turn⟩:=h2;subst e;refine EJ ?_;generalize Z:({i with heap:=i.heap.push {cls:=.type "list",data:=.seq ([]:List Value).toArray}}:Shared)=j;refine Vg ?_;have ob2:∀b∈l,∃o,i.heap.get? b=some o:=fun b q=>let ⟨o,e,_⟩:=T.obj _ _ Y b q;⟨o,e⟩;have I4:=Vj (fp:=l) (cl:=cl) S B f2 ob2 hcl U Z.symm;generalize e4:({j with heap:=pushCells (j.heap.push {cls:=.type "dict",data:=.dict #[]}) scope.names}:Shared)=s4 at I4;generalize ecl:cellsFrom (j.heap.objs.size+1) scope.names cl=a at I4;have r:=I4.ok;have k3:∀b o,i.heap.get? b=some o→j.heap.get? b=some o:=fun b o e=>by subst Z;exact AW _ e
 have Ky:j.heap.objs.size=i.heap.objs.size+1:=by subst Z;exact CQ ..
 have k34:∀b o,j.heap.get? b=some o→s4.heap.get? b=some o:=fun b o e=>by subst e4;exact pushCells_keeps _ _ b o (AW _ e)
 have hDfp:i.heap.objs.size∉l:=fun hm=>by obtain ⟨o,e⟩:=ob2 _ hm;exact absurd (AY e) (Ea _)
 have t:i.heap.objs.size∈(Bc X Nc scope j.heap.objs.size i.heap.objs.size a l j u f).ex:=AX;have ao:HV (Bc X Nc scope j.heap.objs.size i.heap.objs.size a l j u f) i.heap.objs.size:=
  ⟨show i.heap.objs.size≠j.heap.objs.size from B0 (by omega),fun x c e=>(r.exf _ t).2 x c e,fun p E=>B0 (AY (B.pin p E).1),t,r.exfs _ t⟩
 obtain ⟨pg,pt,em⟩:=q j.heap.objs.size i.heap.objs.size a l j u f ao;have hD4:s4.heap.get? i.heap.objs.size=some (C5 [] 0):=by refine k34 _ _ ?_;subst Z;exact Bx _ rfl
 have fC:∀b∈l,∀(o:Obj) (H':Hp),H' b=none→Dx (Bc X Nc scope j.heap.objs.size i.heap.objs.size a l j u f) ((i.heap.objs.size,o)::[]) H' b:=fun b q o H' hn=>by
  have w:b∈(Bc X Nc scope j.heap.objs.size i.heap.objs.size a l j u f).ex:=A2 _ q;refine ⟨hn,(r.exf b w).1,r.exfs b w,.inl w,(r.exf b w).2,fun p hpp=>?_⟩;rcases qb1.mp hpp with z |z
  ·exact (f2 b q).2.2.2.2.2 p z
  ·rw [qaG] at z;subst z;intro e;exact hDfp ((show i.heap.objs.size=b from e) ▸ q)
 have I4':Inv (Bc X Nc scope j.heap.objs.size i.heap.objs.size a l j u f) ((i.heap.objs.size,C5 [] 0)::[]) (BL cs P) u s4:=I4.pins_of fun p E=>by rw [qaG] at E;subst E;exact ⟨hD4,B.hok.fresh (AK _),ao.lo,ao.fs,fun v z=>by cases z⟩
 have st4:tn 0 s4.heap:=T.keep _ _ _ Y fun b q o e=>k34 b o (k3 b o e);have F:=Wu (X:=Bc X Nc scope j.heap.objs.size i.heap.objs.size a l j u f) (QQ:=fun A H5=>A.length≤sizeLine∧∀p,H5 p=none→Q (.ref p) (Av H5 p (.lst A)))
  (R:=compPost (model X.prog X.w) X.A X.xe use QQ (.ref i.heap.objs.size) j.heap.objs.size) rfl G (d:=0) (gens:=⟨tg,iter,ifs,0⟩::gs) rfl ha pg pt em T fC (fun p E=>(nomatch E)) turn (fun its k A H5 N I6 rv5 qn=>?_) n0
   ⟨0,[],u,[],0,w0,I4',st4,fun b q=>(f2 b q).1,.nil⟩
 ·exact Wr (d:=0) rfl F (T.self X.A 0 s4 _ _ st4 F)
 ·obtain ⟨m6,hn6,_⟩:=I6.loc;obtain ⟨ho6,hD6,_⟩:=I6.pin _ (BA _ AX);have M:∀b,b<i.heap.objs.size→b≠j.heap.objs.size:=fun b q=>B0 (Bn q (by omega));refine AQ N j.heap.objs.size i.heap.objs.size (Av H5 i.heap.objs.size (.lst A)) m6 hn6 ?_ (BJ B.sz (by omega)) ?_ ?_ ?_ ?_ (qn.2 _ hD6)
  ·rw [AJ (Jf (by omega))];exact I6.free
  ·obtain ⟨m2,hn2,_⟩:=B.loc;exact Ne.symm (M _ hn2.lt)
  ·intro x c hx;obtain ⟨v,hv⟩:=B.cell x c hx;obtain ⟨o,ho,_⟩:=hv;exact M _ (AY ho)
  ·intro p E;exact M _ (AY (B.pin p E).1)
  ·intro h' sb;exact Vk B f2 Z.symm rfl I6 hD6 qn.1 rv5 ho6 sb
def kF (d:X.calm=true) (S:FV X scope Nc cs) (j:PI X tg iter wi) (k:∀g,gs[0]?=some g→g.is_async=0)
 (l:∀(C D:Addr) (c:List (Str×Addr)) (f:List Addr) (a:Shared) (b:Hp) (p:PQ),HV (Bc X Nc scope C D c f a b p) D→PG (Bc X Nc scope C D c f a b p) tg g∧FU (Bc X Nc scope C D c f a b p) ifs tc∧
  EM (Bc X Nc scope C D c f a b p) D (DB elt (⟨tg,iter,ifs,0⟩::gs) scope pos 0 (.ref D) (Bc X Nc scope C D c f a b p).env) te)
 (e:∀x,foldedSetIterable iter X.env x=pure x:=by intro _;rfl):PE X (.ListComp elt (⟨tg,iter,ifs,0⟩::gs) scope pos) (P0 cs wi g tc te):=by
 intro p s u H Q I h;rw [eval_ListComp];exact kE (use:=none) d S j k l e I h fun v C D m n o _ _ _ _ _ i q=>⟨n,o,fun r t=>⟨.ref D,m,i r t,rfl,q⟩⟩
end
abbrev DJ:=Ag→HD→List D→Out (List D)
abbrev Wv:=L2.St→Hp→List V→(List V→Hp→Prop)→Prop
def Frs (a:List Nat) (b:L2.St):Prop:=∀j∈a,b[j]?=some none
def JB (K:Frag) (is j:List Nat) (g:TG) (s:MG):Prop:=
 ∀m H d v e c b Q,DV K m H d v→ER K m H e c→Frs (is++j) c→s d e=some b→(∀a,Sub c a→Frs j a→ER K m H b a→Q a H)→g v c H Q
def kG {b a:L2.St} {i:Nat} (h:b[i]?=some none) (s:Sub b a):Sub b (a.set i (some v)):=by
 refine ⟨by rw [s.1];simp,fun j w e=>?_⟩;have c:i≠j:=by rintro rfl;rw [h] at e;cases e
 rw [BI c];exact s.2 j w e
def Frs.set {a:List Nat} {b:L2.St} {i:Nat} {v:Option V} (h:Frs a b) (n:i∉a):Frs a (b.set i v):=fun j c=>by
 have d:i≠j:=by rintro rfl;exact n c
 rw [BI d];exact h j c
def MH {K:Frag} {i:Nat} {js:List Nat} (n:i∉js):JB K [i] js (CH i) (AB i):=fun m H d v c g a Q r b f e q=>by simp only [AB,Option.some.injEq] at e;subst e;exact q _ (kG (f i AX) (.refl _)) (Frs.set (fun j h=>f j (A2 _ h)) n) (b.set r)
def FA (f:ME):DJ:=fun ρ h acc=>if acc.length<sizeLine then (wB (f ρ h)).bind fun y a=>.ok (acc++[y]) a else .stuck
open Classical in
def Eo (s:Bj) (i:List D) (g:MG) (t:MT) (e:DJ) (j:Ag):List D→HD→List D→Out (List D)
 |[],h,a=>if A7 s i h then .ok a h else .stuck
 |d::k,h,a=>if A7 s i h then match g d j with
   |none=>.stuck
   |some c=>(wB (t c h)).bind fun b l=>if b=true then (wB (e c l a)).bind fun f m=>Eo s i g t e j k m f else Eo s i g t e j k l a
  else .stuck
def Ep (i:MI) (s:MG) (t:MT) (e:DJ):DJ:=fun ρ h acc=>(wB (i ρ h)).bind fun x a=>Eo x.2 x.1 s t e ρ x.1 a acc
def F5 (c:List (Option Nat)) (i:MI) (s:MG) (t:MT) (e:DJ):ME:=fun a h=>(i a h).bind fun x b=>(Eo x.2 x.1 s t e (Cs c a) x.1 b []).bind BG
def FB (K:Frag) (j:List Nat) (e:DJ):Wv:=fun b H a Q=>∃m c h d,HR K m h H∧ER K m H c b∧DVs K m H d a∧Frs j b∧wa K (EO K) m H E0 Q (e c h d)
def EM.imp {D:Addr} {em:Sem Unit} {c t:Wv} (h:EM X D em c) (f:∀b H a Q,t b H a Q→c b H a Q):EM X D em t:=
 fun rest i k a b H s Q I d r z=>h rest i k a b H s Q I d r (f _ _ _ _ z)
def kH {K:Frag} {j:List Nat} (c:L2.St) (H:Hp) (a:List V) (Q:List V→Hp→Prop):FB K j (FA f) c H a Q→Ws (tD K E0 f) c H a Q:=by
 rintro ⟨m,g,h,d,i,k,e,_,p⟩;unfold FA at p;split at p
 ·rename_i l;refine ⟨by rw [←DVs.len e];exact l,m,g,h,i,k,Jg p fun y u v n o _ q r b s t=>?_⟩;exact t _ n o (AI _) (.refl _) b ((DVs.keep q r e).app (.cons s .nil))
 ·exact p.elim
inductive Ww {β:Type} (K:Frag) (E:XK) (α:Type) (R:List Addr→Hp→α→β→Prop) (Q:β→Hp→Prop) (kk:List D→HD→Out α) (src:Bj) (items:List D) (sg:MG) (t:MT) (e:DJ) (ρ:Ag) (m1:List Addr) (H1:Hp) (i n:Nat) (acc:List V) (H2:Hp):Prop where
 |mk (en:n=items.length - i) (l:i≤items.length) (m2:List Addr) (h2:HD) (dacc:List D) (p:m1 <+:m2) (k:Kp H1 H2) (hr:HR K m2 h2 H2) (da:DVs K m2 H2 dacc acc) (q:wa K R m2 H2 E Q ((Eo src items sg t e ρ (items.drop i) h2 dacc).bind kk)):Ww K E α R Q kk src items sg t e ρ m1 H1 i n acc H2
def Wx {K:Frag} {α β:Type} {R:List Addr→Hp→α→β→Prop} {Q:β→Hp→Prop} {kk:List D→HD→Out α} {is js:List Nat} {gg:TG} {sg:MG} {t:MT} {e:DJ} {s:Bj} {a:List D} {J:It} {c:List D} {f:List V} {QQ:List V→Hp→Prop} 
 (hg:JB K is js gg sg) (fr:Frs (is++js) C) (er:ER K k l Y C) (r1:Hs K k l (a,s) J) (hr1:HR K k h1 l) (F:DVs K k l c f) (q:wa K R k l E Q ((Eo s a sg t e Y a h1 c).bind kk))
 (AQ:∀m h H c f,k <+:m→Kp l H→HR K m h H→DVs K m H c f→wa K R m H E Q (kk c h)→QQ f H):
 ∃W:Nat→Nat→List V→Hp→Prop,(∃n,W 0 n f l)∧∀i n f H,W i n f H→(J.stop i H∧QQ f H)∨
  (J.go i H∧∀x H',J.yld i H x H'→gg x C H' fun o G=>Sub C o∧Fe K E0 t o G fun b I=>if b=true then FB K js e o I f fun L H4=>∃M,M<n∧W (i+1) M L H4 else ∃M,M<n∧W (i+1) M f I):=by
 refine ⟨Ww K E α R Q kk s a sg t e Y k l,⟨a.length,rfl,EI _,k,h1,c,AI _,.refl _,hr1,F,q⟩,?_⟩;rintro i n f G ⟨rfl,hi',N,Z,c,u,A,p,F,g⟩
 by_cases j:i<a.length
 ·rw [G3 j] at g;unfold Eo at g;split at g
  ·rename_i hs;obtain ⟨hgo,hy⟩:=(r1 i N Z G u A p hs).1 j;refine .inr ⟨hgo,fun y I hyl=>?_⟩;obtain ⟨B,hr3,d,ed,rd⟩:=hy y I hyl;have ed':d=a[i]:=by rw [Bl j] at ed;exact (Option.some.inj ed).symm
   subst ed';split at g
   ·exact g.elim
   ·rename_i r es;refine hg N I _ y Y C r _ rd (er.keep u (A.trans B)) fr es fun σ4 O fr4 P=>⟨O,N,r,Z,hr3,P,?_⟩
    rw [Out.bind_assoc] at g;refine Jg (wa.ahead (AI _) B g) fun b h5 v m5 H5 _ S T U r5 X=>?_;cases r5;cases b with
    |false=>simp only [Cz,if_false] at X ⊢;exact ⟨a.length - (i+1),by omega,rfl,j,m5,h5,c,u.trans S,(A.trans B).trans T,U,DVs.keep S (B.trans T) F,X⟩
    |true=>simp only [if_true] at X ⊢;rw [Out.bind_assoc] at X;refine ⟨m5,r,h5,c,U,P.keep S T,DVs.keep S (B.trans T) F,fr4,Jg X fun z h6 w m6 H6 _ p6 k6 hr6 r6 q6=>?_⟩;exact ⟨a.length - (i+1),by omega,rfl,j,m6,h6,z,(u.trans S).trans p6,((A.trans B).trans T).trans k6,hr6,r6,q6⟩
  ·exact g.elim
 ·have he:i=a.length:=Ls hi' (IP j);subst he;rw [List.drop_length] at g;unfold Eo at g;split at g
  ·rename_i hs;exact .inl ⟨(r1 _ N Z G u A p hs).2 rfl,AQ N Z G c f u A p F g⟩
  ·exact g.elim
def kI {K:Frag} {is j:List Nat} {i:MI} {k:TG} {s:MG} {t:MT} {e:DJ} (w:JB K is j k s) (l:L2.St) (H:Hp) (b:List V) (Q:List V→Hp→Prop):FB K (is++j) (Ep i s t e) l H b Q→Wt (tM K (Hs K) E0 i) k (Fe K E0 t) (FB K j e) l H b Q:=by
 rintro ⟨m,y,h,n,z,q,A,fr,p⟩;unfold Ep at p;refine ⟨m,y,h,z,q,Jg p fun x L J M N _ r u c B C=>?_⟩;refine Wx (E:=E0) (kk:=fun a h=>.ok a h) w fr (q.keep r u) B c (DVs.keep r u A) ?_ fun F O G d v P R f g I=>I _ F G (AI _) (.refl _) f g;have:∀o:Out (List D),(o.bind fun a h=>.ok a h)=o:=fun o=>by cases o<;>rfl
 rw [this];exact C
section
variable {X:Cx} {E:XK} {D:Addr} {elt tg iter:Expr} {ifs:List Expr} {gs gens:List Comprehension} {scope:Scope} {pos:Pos} {Nc:List Str} {cs:List (Option Nat)} {it:MI} {gg:TG} {sg:MG} {t:MT} {f:ME} {e:DJ} {d:Nat} {is js:List Nat}
def kJ (a:HV X D) (x:X.xe=fun _ _=>False) (h:gens[d+1]?=none) (p:Ev X E0 elt f):EM X D (DB elt gens scope pos d (.ref D) X.env) (FB X.K js (FA f)):=(kA a x h p).imp kH
def P3 (a:X.xe=fun _ _=>False) (b:X.calm=true) (c:gens[d+1]?=some ⟨tg,iter,ifs,0⟩) (i:∀g,gens[d+1+1]?=some g→g.is_async=0) (j:DP X E0 tg iter it) (p:PG X tg gg) (k:JB X.K is js gg sg) (pt:GB X E0 ifs t) (em:EM X D (DB elt gens scope pos (d+1) (.ref D) X.env) (FB X.K js e))
 (h:∀x,foldedSetIterable iter X.env x=pure x:=by intro _;rfl):EM X D (DB elt gens scope pos d (.ref D) X.env) (FB X.K (is++js) (Ep it sg t e)):=(kC a b c i j p pt em h).imp (kI k)
def kK (o:∀j∈is++js,cs[j]?=some none) (q:JB X.K is js gg sg):∀b H Q,tD X.K E (F5 cs it sg t e) b H Q→P0 cs (tM X.K (Hs X.K) E it) gg (Fe X.K E0 t) (FB X.K js e) b H Q:=by rintro b H Q ⟨m,r,h,s,l,p⟩;refine ⟨m,r,h,s,l,wa.bind p fun x B J C F _ u v c w y=>?_⟩;exact Wx (QQ:=fun a H=>a.length≤sizeLine∧∀p,H p=none→Q (.ref p) (Av H p (.lst a))) q (fun j z=>by unfold BL;rw [Cg,o j z];rfl) ((l.keep u v).comp cs) w c .nil y fun G I L g n M N i k A=>Gu (X:=X) i k A
def kL (h:X.calm=true) (S:FV X scope Nc cs) (i:DP X E tg iter it) (k:∀g,gs[0]?=some g→g.is_async=0) (l:∀j∈is++js,cs[j]?=some none) (m:JB X.K is js gg sg)
 (n:∀(C D:Addr) (c:List (Str×Addr)) (a:List Addr) (s:Shared) (H:Hp) (p:PQ),HV (Bc X Nc scope C D c a s H p) D→PG (Bc X Nc scope C D c a s H p) tg gg∧GB (Bc X Nc scope C D c a s H p) E0 ifs t∧
  EM (Bc X Nc scope C D c a s H p) D (DB elt (⟨tg,iter,ifs,0⟩::gs) scope pos 0 (.ref D) (Bc X Nc scope C D c a s H p).env) (FB X.K js e))
 (b:∀x,foldedSetIterable iter X.env x=pure x:=by intro _;rfl):Ev X E (.ListComp elt (⟨tg,iter,ifs,0⟩::gs) scope pos) (F5 cs it sg t e):=
 BR (kF (g:=gg) (tc:=Fe X.K E0 t) (te:=FB X.K js e) h S i k n b) (kK l m)
end
def P4 {m:Type} {s:Bj} {v:MG} {t:MT} {e:DJ} (q:m→D) (g:m→Bool) (j:m→List D) (f:m→Ag):
 ∀(d:List m) (h:HD) (b:List D),(∀c,Sm h c→A7 s i c)→(∀x∈d,v (q x) w=some (f x))→(∀x∈d,∀c,Sm h c→Pu (t (f x) c) c (g x))→(∀x∈d,g x=true→∀c b,Sm h c→b.length+(j x).length≤sizeLine→Pu (e (f x) c b) c (b++j x))→
  b.length+((d.filter g).flatMap j).length≤sizeLine→Pu (Eo s i v t e w (d.map q) h b) h (b++(d.filter g).flatMap j)
 |[],h,b,r,_,_,_,_=>by simp only [Hb,List.filter_nil,Eo];rw [if_pos (r h (.refl _))];simpa using (.ok:Pu (.ok b h) h b)
 |x::d,h,b,r,A,B,C,u=>by
  simp only [Bk,Eo];rw [if_pos (r h (.refl _)),A x AX];simp only;refine Pu.bind (B x AX h (.refl _)).wB fun E z=>?_;have F:∀k b,Sm h k→b.length+((d.filter g).flatMap j).length≤sizeLine→Pu (Eo s i v t e w (d.map q) k b) k (b++(d.filter g).flatMap j):=fun k b n G=>P4 q g j f d k b (fun c o=>r c (n.trans o))
   (fun y p=>A y (A2 _ p)) (fun y p c o=>B y (A2 _ p) c (n.trans o)) (fun y p H c a o I=>C y (A2 _ p) H c a (n.trans o) I) G
  cases l:g x with
  |false=>rw [N6 (by simp [l])] at u ⊢;rw [if_neg BE];exact F E b z u
  |true=>
   rw [N7 l,IK] at u ⊢;rw [DE] at u;rw [if_pos rfl];refine Pu.bind (C x AX l E b z (by omega)).wB fun k n=>?_;have:=F k (b++j x) (z.trans n) (by rw [DE];omega)
   rwa [J7] at this
def kM {f:ME} {a:List D} (c:Pu (f b h) h y) (d:a.length+1≤sizeLine):Pu (FA f b h a) h (a++[y]):=by unfold FA;rw [if_pos (by omega)];exact Pu.bind c.wB fun e s=>.ok
def P5 {b c:Type} {y:b→c}:∀{a:List b},a.flatMap (fun x=>[y x])=a.map y
 |[]=>rfl
 |x::a=>by rw [IK,P5,Bk];rfl
section
variable {α β:Type} {cs:List (Option Nat)} {it:MI} {sg:MG} {t:MT} {f:ME} {e:DJ} {ρ:Ag} {h:HD} {src:Bj} {xs:List α} {φ:α→D} {acc:List D}
def P6 (g:α→Bool) (i:α→List D) (c:α→Ag) (d:Bq (it ρ h) h (xs.map φ) src) (o:∀x∈xs,sg (φ x) ρ=some (c x)) (p:∀x∈xs,∀b,Sm h b→Pu (t (c x) b) b (g x)) (q:∀x∈xs,g x=true→∀b acc,Sm h b→acc.length+(i x).length≤sizeLine→Pu (e (c x) b acc) b (acc++i x))
 (r:acc.length+((xs.filter g).flatMap i).length≤sizeLine):Pu (Ep it sg t e ρ h acc) h (acc++(xs.filter g).flatMap i):=by
 unfold Ep Pu;have:Wp (wB (it ρ h)) fun x b=>x=(xs.map φ,src)∧Sm h b∧∀j,Sm b j→A7 src (xs.map φ) j:=by
  unfold Bq at d;cases k:it ρ h with
  |ok a l=>rw [k] at d;exact d
  |err C fs l=>rw [k] at d;exact d
  |stuck=>rw [k] at d;exact d
 rw [AL];refine Wp.mono this fun x l z=>?_;obtain ⟨rfl,s,u⟩:=z;exact (P4 φ g i c xs l acc u o (fun x m b n=>p x m b (s.trans n)) (fun x m v b a n w=>q x m v b a (s.trans n) w) r).wp fun j y=>⟨rfl,s.trans y⟩
def kN (y:α→D) (b:α→Ag) (d:Bq (it ρ h) h (xs.map φ) src) (g:∀x∈xs,sg (φ x) ρ=some (b x)) (i:∀x∈xs,∀a,Sm h a→Pu (f (b x) a) a (y x)) (j:acc.length+(xs.map y).length≤sizeLine):
 Pu (Ep it sg AH (FA f) ρ h acc) h (acc++xs.map y):=by
 have:=P6 (t:=AH) (e:=FA f) (acc:=acc) (fun _=>true) (fun x=>[y x]) b d g (fun x c a s=>(.ok:Pu (.ok true a) a true)) (fun x c _ a acc s z=>kM (i x c a s) z) (by rw [B8,P5];exact j)
 rwa [B8,P5] at this
def kO {Q:D→HD→Prop} (g:α→Bool) (d:α→List D) (c:α→Ag) (m:Bq (it ρ h) h (xs.map φ) src) (n:∀x∈xs,sg (φ x) (Cs cs ρ)=some (c x)) (o:∀x∈xs,∀b,Sm h b→Pu (t (c x) b) b (g x)) (p:∀x∈xs,g x=true→∀b acc,Sm h b→acc.length+(d x).length≤sizeLine→Pu (e (c x) b acc) b (acc++d x))
 (k:((xs.filter g).flatMap d).length≤sizeLine) (q:∀l b,Sm h b→b[l]?=some (.lst ((xs.filter g).flatMap d))→Q (.loc l) b):Wp (F5 cs it sg t e ρ h) Q:=by
 unfold F5;rw [AL];refine Wp.mono m fun x r z=>?_;obtain ⟨rfl,s,u⟩:=z;rw [AL];refine (P4 φ g d c xs r [] u n (fun x i b j=>o x i b (s.trans j)) (fun x i v b a j w=>p x i v b a (s.trans j) w) (by simpa using k)).wp fun E y=>?_;rw [G7];exact A4 k fun l A B C _ _=>q l A ((s.trans y).trans B) C
def kP (cs:List (Option Nat)) (it:MI) (sg:MG) (t:MT) (e:DJ):ME:=Ab (Ai Bi) (Ac (F5 cs it sg t e) Af)
def kQ (cs:List (Option Nat)) (it:MI) (sg:MG) (t:MT) (e:DJ):ME:=Ab (Ai DR) (Ac (F5 cs it sg t e) Af)
@[simp] theorem vM:Ab (Ai Bi) (Ac (F5 cs it sg t e) Af) ρ h=kP cs it sg t e ρ h:=rfl
@[simp] theorem vN:Ab (Ai DR) (Ac (F5 cs it sg t e) Af) ρ h=kQ cs it sg t e ρ h:=rfl
end
inductive TlN (h:Heap) (ns:List Str) (bB:List Value):List Value→Prop
 |base:TlN h ns bB bB
 |own {a:Addr} {c0:Value} {dd:Option Addr} {cd:ClassData} {sl:Array (Option Value)} {m:Str→Option Value} {tl:List Value} (ha:h.get? a=some {cls:=c0,dict:=dd,data:=.cls cd,slots:=sl}) (hm:h.Ns cd.ns m) (no:∀n∈ns,m n=none) (r:TlN h ns bB tl):TlN h ns bB (.ref a::tl)
def TlN.keeps {h a:Heap} {n:List Str} (T:TlN h n c t) (k:∀b o,h.get? b=some o→a.get? b=some o):TlN a n c t:=by
 induction T with
 |base=>exact .base
 |own d e no _ i=>exact .own (k _ _ d) (e.keeps k) no i
def TlN.has {n:List Str} {b t:List Value} (T:TlN h n b t) (a:b.contains v=true):t.contains v=true:=by
 induction T with
 |base=>exact a
 |own c d no _ i=>rw [List.contains_cons,i,Bool.or_true]
section
variable {M:Model} {A:Around} {E:Value→Shared→Prop} {h:Heap} {g:Array GenState} {d:Drawn} {t:Nat} {os:OsState}
def TlN.look {a:List Str} {y:Option Value} {Q:Option Value→Shared→Prop} (T:TlN h a b c) (f:n∈a) (e:lookupAlong b n=pure y) (q:Q y ⟨h,g,d,t,os⟩):wpAny M A (lookupAlong c n) Q E ⟨h,g,d,t,os⟩:=by
 induction T with
 |base=>rw [e];exact AD q
 |own i j no _ k=>rw [lookupAlong_cons];refine Aj (wpAny_classOwn_cls i j ?_);rw [no n f];exact k
variable {nm q:Str} {C N x:Addr} {bs bm bB:List Value} {hd:Bool} {sn:List Str} {sub:List Value} {ab:Bool} {col:Option Bool} {dd:Option Addr} {k0 k1 k2 k3 k5:Option Value} {B newId sa owner:String} {ns:List Str} {mN mA:Str→Option Value} {name:Str} {v:Value}
end
section
variable {prog:Program} {w:World} {A:Around} {E:Value→Shared→Prop} {h:Heap} {g:Array GenState} {d:Drawn} {t:Nat} {os:OsState}
variable {nm q:Str} {C N x:Addr} {bs bm bB:List Value} {sn:List Str} {sub:List Value} {ab:Bool} {col:Option Bool} {dd:Option Addr} {k0 k1 k2 k3 k5:Option Value} {B newId sa owner:String} {ns:List Str} {mN mA:Str→Option Value} {name:Str} {v:Value}
end
noncomputable def tmNames:List Str:=["__init__","__setattr__","__getattribute__","__getattr__","many","most"]
noncomputable def Wy (K:Frag) (c:List Str) (b:List Value):List Value→Bool
 |[]=>b==[]
 |v::r=>(v::r)==b||match v with
  |.ref a=>(match K.lookup a with
   |some o=>(match IT o.data with
    |some d=>nsOkIn K d.ns&&(c.all (fun n=>nsIn K d.ns n==some none)&&Wy K c b r)
    |none=>false)
   |none=>false)
  |_=>false
def TlN.tail {n:List Str} (T:TlN h n b t) (a:("__init__":Str)∈n):OwnTail h b t:=by
 induction T with
 |base=>exact .base
 |own c d no _ i=>exact .own c d (no _ a) i
noncomputable def kR (K:Frag) (C f:Addr) (o:Obj) (c:ClassData):Bool:=
 decide (o.cls=.type "type")&&(decide (c.mro=.ref C::c.mro.tail)&&(!c.hasDel&&(Wy K tmNames Lz c.mro.tail&&(nsOkIn K c.ns&&(nsIn K c.ns "__init__"==some (some (.ref f))&&(tmNames.tail.all (fun n=>nsIn K c.ns n==some none)&&(decide (o.slots.toList.length=6)&&(decide (o.slots.toList[4]?=some (some (.builtin "ValueError.__new__")))&&c.hasDict))))))))
def tmX (K:Frag) (C f:Addr):Bool:=match K.lookup C with
 |some o=>(match IT o.data with
  |some c=>kR K C f o c
  |none=>false)
 |none=>false
def one (n:Str) (u:Value):Str→Option Value:=fun y=>if y=n then some u else none
section
variable {X:Cx} {pins:PQ} {σ:L2.St} {H:Hp} {s:Shared} {E:Value→Shared→Prop} {A:Around} {C fI e da:Addr} {n:Str} {u:Value}
def del (H:Hp) (a:Addr):Hp:=fun b=>if b=a then none else H b
def Wz {H:Hp} (h:b≠a):del H a b=H b:=by unfold del;rw [if_neg h]
def Kp.del {H:Hp} {c:Heap→Prop} (h:H a=some (.mex c)):Kp H (LS.del H a):=fun b o e i=>by
 rw [Wz]
 ·exact e
 ·intro z;rw [z,h] at e;cases e;cases i
def HR.del {K:Frag} {H:Hp} {j:Heap→Prop} (r:HR K m h H) (e:H a=some (.mex j)):HR K m h (LS.del H a):=r.same (.del e) fun b k=>Wz fun z=>by
 subst z;obtain ⟨l,i,p⟩:=IH k;have f:l<h.length:=by rw [←r.len];exact i
 have c:=r.cells l h[l] m[l] (Bl f) (Bl i);rw [p] at c;cases d:h[l] with
 |lst w=>rw [d] at c;obtain ⟨x,q,_⟩:=c;rw [e] at q;cases q
 |ins n fs=>rw [d] at c;obtain ⟨_,_,_,_,q,_⟩:=c;rw [e] at q;cases q
 |tabn g=>rw [d] at c;obtain ⟨_,y,q,_⟩:=c;rw [e] at q;cases q
 |dic t v=>
  rw [d] at c;obtain ⟨B,q,_⟩:=c;cases t with
  |true=>obtain ⟨o,q⟩:=q;rw [e] at q;cases q
  |false=>exact absurd (e.symm.trans q) (by intro z;cases z)
end
open PySem.Calls
def swX (K:Frag) (S:Addr):Bool:=PySem.W.readsIn K S (.type "type")&&(match PySem.W.findCls K (.ref S) (.type "type") "__init__" with
 |some (.val (.builtin b))=>b=="ValueError.__init__"
 |_=>false)
end LS
namespace Tp
open PySem PySem.W PySem.Spec PySem.Calls PyProof.Rows
def lookup_mem {a:Addr}:∀{l:Frag},l.lookup a=some o→(a,o)∈l
 |[],h=>by cases h
 |(b,c)::l,h=>by
  rw [E4] at h;split at h
  ·rename_i q;cases h;rw [beq_iff_eq.mp q];exact .head _
  ·exact .tail _ (lookup_mem h)
def WA:∀{l:List Obj} {k:Nat} {p:Addr×Obj},p∈He l k→∃i,p.1=k+i∧l[i]?=some p.2∧p.2.isFreed=false
 |[],_,_,h=>by cases h
 |o::l,k,p,h=>by
  have rest:p∈He l (k+1)→∃i,p.1=k+i∧(o::l)[i]?=some p.2∧p.2.isFreed=false:=fun q=>by obtain ⟨i,a,b,c⟩:=WA q;exact ⟨i+1,by rw [a];show (k+1+i:Nat)=k+(i+1);omega,by simpa using b,c⟩
  unfold He at h;split at h
  ·exact rest h
  ·rename_i d;split at h
   ·exact rest h
   ·rcases qa6.mp h with rfl |h
    ·exact ⟨0,rfl,rfl,d⟩
    ·exact rest h
def kS (h:Heap):(Sg h).In h:=fun a o e=>by
 obtain ⟨i,b,f,g⟩:=WA (lookup_mem e);simp only [Nat.zero_add] at b;subst b;simp only at f g;have j:h.objs[a]?=some o:=by simpa using f
 unfold Heap.get?;rw [j];obtain ⟨c,d,k,s⟩:=o;cases k<;>first |rfl |cases g
inductive wW (K:Frag) (n:Str) (st:Stmt):Prop where
 |mk (f:Addr) (od an:Option Addr) (sl:Array (Option Value)) (oc kV dc pm cd ct:Value) (a:nsIn K mainGlobals n=some (some (.ref f)))
  (l:K.lookup f=some ⟨oc,od,.func (fnOf n n (L2.wq st) (L2.wh st) (L2.wb st) .none kV dc pm an cd ct),sl⟩) (c:codeIn K cd n=true) (k:keepIn K (.ref f)=true):wW K n st
def kT {K:Frag} {n:Str} {st:Stmt} (e:On K n=some (Oo n st,true,true)):wW K n st:=by
 unfold On at e;split at e
 ·rename_i f r;split at e
  ·rename_i s t u v w;obtain ⟨a,y⟩:=Prod.mk.inj (Option.some.inj e);obtain ⟨z,A⟩:=Prod.mk.inj y;obtain ⟨i,j,k,l,m,o,p,q,B,b,c,d,g,h,x⟩:=u;replace a:FuncData.mk i j k l m o p q .none .none .none none .none .none x=Oo n st:=a;injection a with J L M N O P Q R S C E F G H I
   subst i j k l m o p q x;exact ⟨f,t,d,v,s,B,b,c,g,h,r,w,z,A⟩
  ·cases e
 ·cases e
def kU {K:Frag} {v:Int} (e:Oq K x=some v):∃t,nsIn K mainGlobals x=some (some (.int v t)):=by
 unfold Oq at e;split at e
 ·rename_i t h;cases e;exact ⟨t,h⟩
 ·cases e
inductive MK (W:wR) (K:Frag) (c T:Addr):Prop where
 |mk (fs:∀(i:Nat) n st,W.fs[i]?=some (n,st)→wW K n st) (cs:∀(i:Nat) n v,W.cs[i]?=some (n,v)→∃t,nsIn K mainGlobals n=some (some (.int v t))) (bs:∀(i:Nat) n,W.bs[i]?=some n→nsIn K mainGlobals n=some none)
  (et:LS.wU K=true) (tb:LS.tabP K "law"=some (c,T)) (hd:codeHdIn K c T=true) (no:K.lookup T=none):MK W K c T
def Says (W:wR) (_:World) (h:Heap):Prop:=∃(K:Frag) (c T:Addr),K.In h∧MK W K c T∧h.get? T=some (tabObj #[])
def Says.keeps {W:wR} (w:World) (h a:Heap) (x:Says W w h) (k:∀b o,h.get? b=some o→a.get? b=some o):Says W w a:=by obtain ⟨K,c,T,d,e,f⟩:=x;exact ⟨K,c,T,d.keeps k,e,k _ _ f⟩
def HW {a b:Type} {f g:a→b} {l:List a} (e:l.map f=l.map g) {i:Nat} {x:a} (h:l[i]?=some x):f x=g x:=by have:=congrArg (·[i]?) e;simp only [Cg,h,G8,Option.some.injEq] at this;exact this
inductive WB (K:Frag) (st:Stmt):Prop where
 |mk (C S f:Addr) (od an:Option Addr) (sl:Array (Option Value)) (kV dc pm cd ct:Value) (nC:nsIn K mainGlobals "TooMany"=some (some (.ref C))) (nS:nsIn K mainGlobals "SwitchError"=some (some (.ref S)))
  (l:K.lookup f=some ⟨.type "function",od,.func (fnOf "__init__" "TooMany.__init__" (L2.wq st) (L2.wh st) (L2.wb st) .none kV dc pm an cd ct),sl⟩) (c:codeIn K cd "TooMany.__init__"=true) (tm:LS.tmX K C f=true) (sw:LS.swX K S=true) (kp:keepIn K (.ref C)=true):WB K st
def SaysT (W:wR) (st:Stmt) (_:World) (h:Heap):Prop:=∃(K:Frag) (c T:Addr),K.In h∧(MK W K c T∧WB K st)∧h.get? T=some (tabObj #[])
def SaysT.keeps {W:wR} {st:Stmt} (w:World) (h a:Heap) (x:SaysT W st w h) (k:∀b o,h.get? b=some o→a.get? b=some o):SaysT W st w a:=by obtain ⟨K,c,T,d,e,f⟩:=x;exact ⟨K,c,T,d.keeps k,e,k _ _ f⟩
end Tp
namespace LS
open PySem PySem.W PySem.Spec PySem.Calls PyProof.Rows L2
open Classical in
def strOfD:D→HD→Out D
 |.int i,h=>if i.natAbs<4611686018427387904 then .ok (.str (toString i)) h else .stuck
 |_,_=>.stuck
section
variable {X:Cx}
def kW:De X (.type "str") (fun x H Q=>∃i:Int,x=[.int i]∧i.natAbs<4611686018427387904∧Q (.str (toString i)) H):=by intro p s a H x b Q I r h;obtain ⟨i,rfl,c,q⟩:=h;obtain ⟨u,rfl,t,rfl⟩:=Ec r;exact str_of_int_fit (N:=4611686018427387904) (by split<;>omega) (Int.le_refl _) fun _=>⟨.str (toString i),H,I.tok _,⟨_,rfl⟩,q⟩
def kX:C1 X (.type "str") (Ai strOfD):=by
 refine ⟨_,kW,fun m H h E f g Q b r q=>Fi r q fun d v e a q=>?_⟩;unfold strOfD at q;split at q
 ·split at q
  ·rename_i i c;simp only [DV] at a;subst a;exact ⟨_,e,c,Bb b q (by simp [DV])⟩
  ·exact q.elim
 ·exact q.elim
noncomputable def kY (i j k:Nat) (a:Ag):List D→HD→Out (Fl×Ag)
 |[u,v,w],h=>.ok (.nx,((a.set i (some u)).set j (some v)).set k (some w)) h
 |_,_=>.stuck
end
@[simp] theorem vO {i j k:Nat} {a:Ag} {u v w:D} {h:HD} {Q:Fl×Ag→HD→Prop}:Wp (kY i j k a [u,v,w] h) Q=Q (.nx,((a.set i (some u)).set j (some v)).set k (some w)) h:=rfl
section
variable {X:Cx}
abbrev P7:=FQ fun i j=>.int (Builtin.bitXor i j)
def kZ:BC X (binaryOp .BitXor) P7:=Jb cu fun _ _ _ _=>by simp [DV]
end
def k7 {X:Cx} {k c:Nat} {F:TF} {x:Str} (C:CaE X.prog X.w X.K X.mg X.base x k F) (h:wm c X.A) (d:CS (Br X.prog X.w X.K) X E) (hk:k≤c:=by decide) (e:Gl X x:=by rfl)
 (a:(x==("__debug__":Str))=false:=by decide):Ev X E (.Call (.Name x p) [] [] pos) (Ab F Af):=by
 obtain ⟨f,l,n,G,g,i,b⟩:=C.ex;refine BR (dB (E:=E) G (h.mono hk) e i b g .nil d a) fun o H Q z=>?_;obtain ⟨m,q,j,h,r,p⟩:=z;exact ⟨m,[],j,h,.nil,p⟩
noncomputable def ML:List (Int×Int)→MA
 |[]=>Af
 |p::a=>Ac (AR (Ac (mC (.int p.1)) (Ac (mC (.int p.2)) Af))) (ML a)
@[simp] theorem vP:ML []=Af:=rfl
@[simp] theorem vQ {p:Int×Int} {a:List (Int×Int)}:ML (p::a)=Ac (AR (Ac (mC (.int p.1)) (Ac (mC (.int p.2)) Af))) (ML a):=rfl
section
variable {X:Cx} {E:XK}
end
end LS
namespace Tp
open PySem PySem.W PySem.Spec PySem.Calls PyProof.Rows
inductive WC (W:wR) (K:Frag):Prop where
 |mk (fs:∀(i:Nat) n st,W.fs[i]?=some (n,st)→wW K n st) (cs:∀(i:Nat) n v,W.cs[i]?=some (n,v)→∃t,nsIn K mainGlobals n=some (some (.int v t))) (bs:∀(i:Nat) n,W.bs[i]?=some n→nsIn K mainGlobals n=some none)
  (et:True):WC W K
def Says0 (W:wR) (_:World) (h:Heap):Prop:=∃K:Frag,K.In h∧WC W K
def Says0.keeps {W:wR} (w:World) (h a:Heap) (x:Says0 W w h) (k:∀b o,h.get? b=some o→a.get? b=some o):Says0 W w a:=by obtain ⟨K,c,d⟩:=x;exact ⟨K,c.keeps k,d⟩
end Tp
namespace LS
open PySem PySem.Spec PyProof.Rows L2
def JC:D→D→HD→Out D:=fun x y h=>match x with
 |.exc _ _=>.stuck
 |.edic=>.stuck
 |_=>AZ x y h
section
variable {h:HD} {y:D} {i:Int} {b:Bool} {x:Str} {ds:List D} {l:Nat}
@[simp] theorem vR:JC (.int i) y h=AZ (.int i) y h:=rfl
@[simp] theorem vS:JC (.bl b) y h=AZ (.bl b) y h:=rfl
@[simp] theorem vT:JC .non y h=AZ .non y h:=rfl
@[simp] theorem vU:JC (.str x) y h=AZ (.str x) y h:=rfl
@[simp] theorem vV:JC (.tup ds) y h=AZ (.tup ds) y h:=rfl
@[simp] theorem vW:JC (.loc l) y h=AZ (.loc l) y h:=rfl
end
open PySem.W PySem.Calls
section
variable {X:Cx} {E:XK}
def GN:D→D→HD→Out D:=fun x y h=>match x,y with
 |.str z,.int i=>if z.length≤sizeLine then (match Cu z.cps.toList i with
  |some c=>.ok (.str ⟨#[c]⟩) h
  |none=>.stuck) else .stuck
 |_,_=>.stuck
def k8 (h:Ev X E a f) (e:Ev X E b g) (j:OQ b):Ev X E (.Subscript a b pos) (Aa GN f g):=
 BR (UO ei h e j) fun p H Q k=>Kq k fun m s t x y v u l r d q=>by
  unfold GN at q;split at q
  ·rename_i z i;split at q
   ·rename_i n;split at q
    ·rename_i c o;simp only [DV] at r d;subst r d;exact ⟨z,i,c,rfl,rfl,n,o,Bb l q (by simp [DV])⟩
    ·exact q.elim
   ·exact q.elim
  ·exact q.elim
def HX:List D→Option (List Str)
 |[]=>some []
 |.str x::d=>(HX d).map (x::·)
 |_=>none
def JD (s:Str):List Str→Str
 |[x]=>x
 |xs=>Builtin.Str.glued s xs
def Cn:D→HD→Out D
 |.str x,h=>.ok (.str x) h
 |_,_=>.stuck
noncomputable def Dq:D→D→HD→Out D:=fun x y h=>match x,y with
 |.str s,.loc l=>(match h[l]? with
  |some (.lst d)=>(match HX d with
   |some a=>if a.toArray.foldl (·+ ·.length+s.length) 0≤sizeLine∧(JD s a).length≤sizeLine then .ok (.str (JD s a)) h else .stuck
   |none=>.stuck)
  |_=>.stuck)
 |_,_=>.stuck
def k9 (x y:D) (h:HD):Em (Dq x y h):=by
 unfold Dq
 repeat' split
 all_goals trivial
def MM:PK X "str" Cn where
 two:=fun x h=>by
  unfold Cn;split
  ·exact .inl rfl
  ·exact .inr rfl
 ty:=fun m H h x v b r e=>by
  unfold Cn at e;split at e
  ·simp only [DV] at r;subst r;exact fun p c s u I a=>L5 I a rfl
  ·cases e
def WD {K:Frag}:∀{a:List D} {f:List V} {u:List Value} {b:List Str},DVs K m H a f→Vals f u→HX a=some b→∃l:List (Str×Tok),u=strValues l∧l.map (·.1)=b
 |[],_,_,_,r,t,e=>by simp only [DVs] at r;subst r;cases t;cases e;exact ⟨[],rfl,rfl⟩
 |d::a,_,_,b,r,t,e=>by
  simp only [DVs] at r;obtain ⟨v,w,rfl,g,c⟩:=r;cases t with
  |cons h i=>
   cases d<;>simp only [HX] at e<;>try cases e
   rename_i x;cases q:HX a with
   |none=>rw [q] at e;cases e
   |some y=>rw [q] at e;cases e;obtain ⟨l,j,k⟩:=WD c i q;simp only [DV] at g;subst g;obtain ⟨n,rfl⟩:=h;exact ⟨(x,n)::l,by rw [j];rfl,by simp [k]⟩
def lg:GL X "str.join" Dq:=by
 intro d s C H m h x y v T u G Q I k o w r J q;unfold Dq at q;split at q
 ·rename_i b l;split at q
  ·rename_i U L;split at q
   ·rename_i A ex;split at q
    ·rename_i c;simp only [DV] at o w;subst o;obtain ⟨a,rfl,M⟩:=w;cases (show G=Value.ref a from J);obtain ⟨t,rfl⟩:=r;obtain ⟨W,N,O⟩:=k.cells l _ a L M;obtain ⟨z,P,n,R,Y,e⟩:=I.lstM N;obtain ⟨i,S,B⟩:=WD O R ex;subst S;have f:Builtin.Str.tooLong ((i.map (·.1)).toArray.foldl (·+ ·.length+b.length) 0)=false:=by rw [B];exact decide_eq_false (Nat.not_lt.mpr c.1)
     have AQ:∀(j g:Tok),EP X d C Q (.str (JD b A) j) {s with toks:=g}:=fun j g=>⟨.str (JD b A),H,I.tok _,⟨j,rfl⟩,Bb k q (by simp [DV])⟩
     refine call_meets F.slot_str_join (typeIs_str _ _ _) F.entry_str_join (F.args_str_join_2 _ _) (meets_str_join_list b t a i f) ⟨⟨_,e,rfl,n,rfl⟩,?_⟩;subst B
     match i,AQ,c with
     |[],AQ,c=>exact ⟨c.2,AQ _ _⟩
     |[p],AQ,c=>exact AQ _ _
     |p::Z::i,AQ,c=>exact ⟨c.2,AQ _ _⟩
    ·exact q.elim
   ·exact q.elim
  ·exact q.elim
 ·exact q.elim
end
section
variable {n:Str} {fa:MA} {f:ME} {ρ:Ag} {h:HD} {Q:D→HD→Prop}
@[simp] theorem vX {x:Str}:Cn (.str x) h=.ok (.str x) h:=rfl
end
section
variable {P:Program} {w:World} {K:Frag} {m:List Addr} {H:Hp} {h:Heap} {a:Addr}
def wY.len:∀{k:List (Dz×D)} {b:List (Dz×V×V)},wY K m H k b→k.length=b.length
 |[],_,e=>by simp only [wY] at e;subst e;rfl
 |_::_,_,e=>by simp only [wY] at e;obtain ⟨c,v,r,rfl,_,_,t⟩:=e;simp [wY.len t]
end
section
variable {X:Cx} {E:XK} {pins:PQ} {σ:L2.St} {H:Hp} {s:Shared}
def lh (I:Inv X pins σ H s):(s.heap.objs.size==sysModules)=false:=by
 have ne:s.heap.objs.size≠sysModules:=by obtain ⟨o,_,_,e,_⟩:=I.ok.mod.glob;obtain ⟨m,⟨g,_,_,a,_⟩,_⟩:=I.loc;have h:(3:Nat)<X.base.objs.size:=AY e;have b:(X.env.locals:Nat)<s.heap.objs.size:=AY a;have c:X.base.objs.size≤X.s₀.heap.objs.size:=I.ok.bsz;have d:X.s₀.heap.objs.size≤(X.env.locals:Nat):=I.ok.above;have f:(1:Nat)<s.heap.objs.size:=Bn (Bn (show 1<4 by decide) h) (BJ c (BJ d (IQ b)));exact fun z=>CG f z
 exact beq_eq_false_iff_ne.mpr ne
end
namespace Db
open PySem
section
variable {prog:Program} {w:World} {A:Around} {E:Value→Shared→Prop} {s:Shared}
abbrev iK (prog:Program) (w:World):KeyKind prog w Int:=intKind prog w
inductive wC (prog:Program) (w:World) (h:Heap):List (List Int)→List Value→Prop
 |nil:wC prog w h [] []
 |cons {k:List Int} {v:Value} {ks:List (List Int)} {vs:List Value}:(∃b,v=.ref b∧IsTupleKey (iK prog w) h k b)→wC prog w h ks vs→wC prog w h (k::ks) (v::vs)
def wA (prog:Program) (w:World) (h:Heap) (k:List (List Int)) (a:Addr):Prop:=∃o i n,h.get? a=some o∧o.cls=.type "tuple"∧o.data=.seq i n∧wC prog w h k i.toList
def wC.inj {x y:List (List Int)} (b:wC prog w h x v) (a:wC prog w h y v):x=y:=by
 induction b generalizing y with
 |nil=>cases a;rfl
 |cons c _ i=>
  cases a with
  |cons d t=>obtain ⟨g,rfl,q⟩:=c;obtain ⟨j,e,f⟩:=d;cases e;rw [q.inj f,i t]
def wA.inj {x y:List (List Int)} (f:wA prog w h x a) (g:wA prog w h y a):x=y:=by
 obtain ⟨o,c,n,j,_,k,l⟩:=f;obtain ⟨m,i,q,d,_,b,e⟩:=g;obtain rfl:o=m:=Option.some.inj (j.symm.trans d);rw [k] at b;injection b with p _
 subst p;exact l.inj e
def wA.typeIs {k:List (List Int)} (x:wA prog w s.heap k a):s.TypeIs (.ref a) "tuple":=let ⟨o,_,_,h,b,_⟩:=x;⟨o,h,b⟩
def wC.keeps {h a:Heap} {o:Obj} {i j} (c:h.get? d=some o) (f:o.data=.dict i j) (g:Heap.SameBut d h a):∀{k:List (List Int)} {v:List Value},wC prog w h k v→wC prog w a k v
 |_,_,.nil=>.nil
 |_,_,.cons l t=>.cons (let ⟨b,e,q⟩:=l;⟨b,e,q.keeps c f g⟩) (wC.keeps c f g t)
def wA.keeps {h f:Heap} {k:List (List Int)} {o:Obj} {p q} (x:wA prog w h k a) (g:h.get? d=some o) (j:o.data=.dict p q) (l:Heap.SameBut d h f):wA prog w f k a:=by
 obtain ⟨m,i,n,c,r,b,t⟩:=x;have e:a≠d:=by rintro rfl;obtain rfl:m=o:=Option.some.inj (c.symm.trans g);rw [j] at b;exact nomatch b
 exact ⟨m,i,n,(l.2 a e).trans c,r,b,t.keeps g j l⟩
end
end Db
end LS
namespace LS
open PySem PySem.Spec PyProof.Rows L2 PySem.W PySem.Calls
def intsD:List D→Option (List Int)
 |[]=>some []
 |.int n::d=>(intsD d).map (n::·)
 |_=>none
namespace Dt
open PySem
section
variable {prog:Program} {w:World} {A:Around} {E:Value→Shared→Prop} {s:Shared}
abbrev iK (prog:Program) (w:World):KeyKind prog w Int:=intKind prog w
end
end Dt
end LS
namespace LS
open PySem PySem.Spec PyProof.Rows L2 PySem.W PySem.Calls
section
section
variable {X:Cx} {E:XK}
noncomputable def KM:D→HD→Out D:=fun x h=>match x with
 |.loc l=>(match h[l]? with
  |some (.lst a)=>(match a[a.length - 1]? with
   |some d=>.ok d (h.set l (.lst a.dropLast))
   |none=>.stuck)
  |_=>.stuck)
 |_=>.stuck
def HY (f:ME):ME:=fun a h=>((f a h).bind CI).bind KM
def DVs.dropLast {K:Frag} {d:List D} {v:List V} (r:DVs K m H d v):DVs K m H d.dropLast v.dropLast:=by rw [List.dropLast_eq_take,List.dropLast_eq_take,r.len];exact r.take _
def lj {b c:Pos} (u:Ev X E o f)
 (e:attributeBase o "pop" X.env (eval o X.env)=eval o X.env:=by rfl) (g:(b.endLine==c.line)=true:=by rfl):
 Ev X E (.Call (.Attribute o "pop" b) [] [] c) (HY f):=
 BR (eP PySem.F.plainAttrs_list PySem.F.slot_list_pop PySem.F.type_list_pop eW u e g) fun L H Q z=>by
  obtain ⟨m,y,h,A,B,p⟩:=z;refine ⟨m,y,h,A,B,?_⟩;unfold HY at p;rw [Out.bind_assoc] at p;refine wa.bind p fun x M v C N F O P j r q=>?_;clear F;unfold CI at q;split at q
  ·rename_i l;split at q
   ·rename_i R n;simp only [Out.bind_ok] at q;simp only [rD,DV] at r;obtain ⟨a,rfl,s⟩:=r;obtain ⟨t,i,k⟩:=j.cells l _ a n s;refine ⟨.inl ⟨rfl,t,SqL.of i⟩,?_⟩;unfold KM at q;simp only [n] at q;split at q
    ·rename_i d G;obtain ⟨w,I,J⟩:=k.get G;refine ⟨a,t,w,rfl,rfl,i,by rw [←k.len];exact I,?_⟩;refine q w C _ (AI _) (.set i rfl) (j.setCell s i rfl ⟨_,CA,?_⟩) (DV.keep (AI _) (.set i rfl) J);exact (DVs.dropLast k).keep (AI _) (.set i rfl)
    ·exact q.elim
   ·exact q.elim
  ·exact q.elim
end
section
variable {f fo fi fv:ME} {ρ:Ag} {h:HD} {QS:Fl×Ag→HD→Prop} {Q:D→HD→Prop} {l:Nat} {ds:List D}
@[simp] theorem vY:Wp (HY f ρ h) Q=Wp (f ρ h) fun x a=>Wp (CI x a) fun x a=>Wp (KM x a) Q:=by unfold HY;simp only [AL]
end
variable {g:Str}
def WE:Expr→List Str
 |.Name x _=>[x]
 |_=>[]
def lp:Expr→List Str
 |.Tuple e _ _=>e.flatMap WE
 |_=>[]
def lq:Expr→List Str
 |.Name x _=>[x]
 |.Tuple e _ _=>e.flatMap WE++e.flatMap lp
 |_=>[]
def lr (c:List (Option Nat)) (N:List Str):List Str:=c.filterMap fun o=>o.map fun j=>N.getD j ""
abbrev GO (t:Expr) (c:List (Option Nat)) (N:List Str):List Str:=lq t++lr c N
def lx {X:Cx} {i:Nat} {x:Str} (a:X.N[i]?=some x:=by rfl) (b:LN X.env.scope x:=by first |exact Or.inl rfl |exact Or.inr (Or.inl rfl) |exact Or.inr (Or.inr rfl)) (c:(x==("__debug__":Str))=false:=by decide) (h:(x==("__classdict__":Str))=false:=by decide):Ev X E (.Name x pos) (Ad i):=UZ (Uk a b c h)
section
variable {X:Cx} {E:XK} {scope:Scope} {cs:List (Option Nat)} {tg iter elt:Expr} {it:MI} {gg:TG} {sg:MG} {ifs:List Expr} {t:MT} {f:ME} {pos:Pos}
def P8 (h:X.calm=true) (S:CSc X scope (GO tg cs X.N) cs) (d:DP X E tg iter it) (e:GA X.K cs gg sg)
 (i:∀(C D:Addr) (c:List (Str×Addr)) (a:List Addr) (s:Shared) (H:Hp) (p:PQ),PG (Bc X (GO tg cs X.N) scope C D c a s H p) tg gg∧GB (Bc X (GO tg cs X.N) scope C D c a s H p) E0 ifs t∧Ev (Bc X (GO tg cs X.N) scope C D c a s H p) E0 elt f)
 (b:∀x,foldedSetIterable iter X.env x=pure x:=by intro _;rfl):Ev X E (.ListComp elt [⟨tg,iter,ifs,0⟩] scope pos) (Ax cs it sg t f):=gY h S.ok d e i b
def P9 {i:Nat} {x:Str} {a b:Pos} (h:X.calm=true) (l:X.N.Nodup) (d:X.N[i]?=some x) (m:Hf X.env.scope x) (S:CSc X scope (GO tg cs X.N) cs) (n:DP X E tg iter it) (o:GA X.K cs gg sg)
 (q:∀(C D:Addr) (c:List (Str×Addr)) (e:List Addr) (s:Shared) (H:Hp) (p:PQ),PG (Bc X (GO tg cs X.N) scope C D c e s H p) tg gg∧GB (Bc X (GO tg cs X.N) scope C D c e s H p) E0 ifs t∧Ev (Bc X (GO tg cs X.N) scope C D c e s H p) E0 elt f)
 (j:∀x,foldedSetIterable iter X.env x=pure x:=by intro _;rfl) (k:swapsWith (.ListComp elt [⟨tg,iter,ifs,0⟩] scope pos) (some (.Name x a)) b.line X.env=pure true:=by rfl)
 (r:X.fn x=true∨X.env.scope.names.lookup x=some .local:=by first |exact .inl rfl |exact .inr rfl |assumption):Ex X E (.Assign [.Name x a] (.ListComp elt [⟨tg,iter,ifs,0⟩] scope pos) b) (Am i (Ax cs it sg t f)):=gZ h l d m S.ok n o q j k r
end
def Aw (n m:Nat) (g:MS):TF:=fun d h=>if d.length=n then Al m g d h else .stuck
section
variable {P:Program} {w:World} {K:Frag} {mg:Str→Option Value} {base h:Heap} {x:Str} {st:Stmt} {N ps:List Str} {k:Nat} {g:MS}
def WG (S:Tp.wW K x st) (X:K.In h) (G:h.Ns mainGlobals mg) (e:∀(kV d p:Value) (i:Option Addr) (b j:Value) (u:List Value),u.length=ps.length→bindArgs (fnOf x x (wq st) (wh st) (wb st) .none kV d p i b j) ⟨u,[]⟩=pure (ps.zip u)):∃f m,Dn K mg x ps st f m:=by obtain ⟨_,_,_,_,_,_,_,_,_,_,a,l,c,k⟩:=S;exact ⟨_,_,IX l c k,(IX l c k).binds e,mg_of X G a⟩
def WH (S:Tp.wW K x st) (X:K.In h) (G:h.Ns mainGlobals mg)
 (b:N.Nodup→∀(f:Addr) (c:Value) (A:Around) (o:List Env) (s:Shared) (H:Hp) (E:XK),wm k (A.deeper (envOfC x (wb st) s.heap.objs.size f c))→Df (CT (Br P w K) P w K mg base N x (wb st) f c A o s H E) E (wh st) g)
 (i:∀(kV d p:Value) (j:Option Addr) (c l:Value) (u:List Value),u.length=ps.length→bindArgs (fnOf x x (wq st) (wh st) (wb st) .none kV d p j c l) ⟨u,[]⟩=pure (ps.zip u):=by intro _ _ _ _ _ _ u m;rcases u with _ |⟨_,_ |⟨_,_ |⟨_,_ |⟨_,_⟩⟩⟩⟩<;>first |rfl |exact absurd m (by simp)) (a:Fd N ps (wb st):=by exact ⟨rfl,rfl,rfl,by decide +kernel,rfl,by decide +kernel,by decide +kernel⟩):CaE P w K mg base x (k+1) (Aw ps.length N.length g):=by
 obtain ⟨f,n,D⟩:=WG S X G i;exact ⟨f,n,_,Mu D.fn a (fun q h e=>if_neg e) (fun q h e=>if_pos e) (fun c A o s H E r=>b a.nd f c A o s H E r),D.bd,D.mg,D.fn.kp⟩
def lz (S:Tp.wW K x st) (X:K.In h) (G:h.Ns mainGlobals mg)
 (b:N.Nodup→∀(f:Addr) (c:Value) (A:Around) (o:List Env) (s:Shared) (H:Hp),wF k (A.deeper (envOfC x (wb st) s.heap.objs.size f c))→Df (Jw P w K mg base N x (wb st) f c A o s H) E0 (wh st) g)
 (j:∀(kV d p:Value) (l:Option Addr) (c m:Value) (u:List Value),u.length=ps.length→bindArgs (fnOf x x (wq st) (wh st) (wb st) .none kV d p l c m) ⟨u,[]⟩=pure (ps.zip u):=by intro _ _ _ _ _ _ u n;rcases u with _ |⟨_,_ |⟨_,_ |⟨_,_ |⟨_,_⟩⟩⟩⟩<;>first |rfl |exact absurd n (by simp)) (a:Fd N ps (wb st):=by exact ⟨rfl,rfl,rfl,by decide +kernel,rfl,by decide +kernel,by decide +kernel⟩):CaM P w K mg base x (k+1) (Aw ps.length N.length g):=by
 obtain ⟨f,q,D⟩:=WG S X G j;exact ⟨f,q,_,jT D.fn a (fun i h e=>if_neg e) (fun i h e=>if_pos e) (fun c A o s H r=>b a.nd f c A o s H r),D.bd,D.mg,D.fn.kp,fun i h e=>if_neg e⟩
def WI {bs:List Str} (a:∀(i:Nat) n,bs[i]?=some n→nsIn K mainGlobals n=some none) (X:K.In h) (G:h.Ns mainGlobals mg):∀x∈bs,mg x=none:=fun x b=>by obtain ⟨i,c,rfl⟩:=IH b;exact PySem.W.mg_none_of X G (a i _ (Bl c))
end
end
open PySem.Builtin PySem.Builtin.Str
abbrev tx (l:List Nat):Str:=⟨l.toArray⟩
def C6 (l:List Nat):(tx l).length=l.length:=by show l.toArray.size=_;simp
def BV (c:Nat):List Nat→Nat→List Nat
 |[],_=>[]
 |a::l,k=>if a=c then k::BV c l (k+1) else BV c l (k+1)
def lC (l:List Nat) (c i:Nat) (h:i<l.length):subAt (tx l) (tx [c]) i=decide (l[i]=c):=by
 unfold subAt;have e:((tx l).cps.extract i (i+(tx [c]).length))=#[l[i]]:=by
  show (l.toArray).extract i (i+1)=_
  apply Array.ext
  ·simp;omega
  ·intro j b a;simp at a;subst a;simp
 rw [e]
 by_cases z:l[i]=c
 ·rw [decide_eq_true z];simp [z]
 ·rw [decide_eq_false z];simp [z]
def MN (l:List Nat) (c a:Nat):∀(n k:Nat) (f:Array Nat) (b:Nat),k+n=l.length→b≤k→
 (forIn (List.range' k (n+1)) (f,b) (StrLaws.occBody (tx l) (tx [c]) l.length a)).run.fst.toList=f.toList++(BV c (l.drop k) k).take (a - f.size)
 |0,k,f,b,e,d=>by have:l.drop k=[]:=List.drop_eq_nil_of_le (by omega);rw [this];unfold StrLaws.occBody;simp [BV,List.range'_succ];rw [if_neg (by rintro ⟨⟨_,h⟩,_⟩;have:(tx [c]).length=1:=rfl;omega)];rfl
 |n+1,k,f,b,e,d=>by
  have hk:k<l.length:=by omega
  rw [List.range'_succ,Lu,G3 hk,BV];unfold StrLaws.occBody;rw [lC l c k hk];have one:(tx [c]).length=1:=rfl
  by_cases z:l[k]=c
  ·rw [if_pos z]
   by_cases g:f.size<a
   ·rw [if_pos (by simp [z,g,d,one];omega)];have i:=MN l c a n (k+1) (f.push k) (k+(tx [c]).length) (by omega) (IR (by rw [one]));refine Eq.trans i ?_;simp;rw [show a - f.size=(a - (f.size+1))+1 by omega,List.take_succ_cons]
   ·rw [if_neg (by simp;intro j;omega)];have i:=MN l c a n (k+1) f b (by omega) (by omega);refine Eq.trans i ?_;rw [show a - f.size=0 by omega,List.take_zero,List.take_zero]
  ·rw [if_neg z,if_neg (by simp [z])];exact MN l c a n (k+1) f b (by omega) (by omega)
def KN (l:List Nat) (c a:Nat):occurrences (tx l) (tx [c]) 0 (tx l).length a=(BV c l 0).take a:=by have h:(tx l).length=l.length:=C6 l;rw [StrLaws.occ_eq,h];have:=MN l c a l.length 0 #[] 0 (by omega) (AK _);simpa using this
def JE (c:Nat) (l:List Nat):Int:=match BV c l 0 with
 |i::_=>(i:Int)
 |[]=>-1
def lD (l:List Nat) (c:Nat):Txt.find (tx l) (tx [c])=JE c l:=by unfold Txt.find JE;rw [KN];cases BV c l 0<;>rfl
noncomputable def Bf (c:Nat):List Nat→List (List Nat)
 |[]=>[[]]
 |a::l=>if a=c then []::Bf c l else match Bf c l with
  |[]=>[[a]]
  |p::b=>(a::p)::b
def Qa (c:Nat):∀l,Bf c l≠[]
 |[]=>by simp [Bf]
 |a::l=>by
  unfold Bf;split
  ·simp
  ·split<;>simp
def Qb (c:Nat):∀l,(∀a∈l,a≠c)→Bf c l=[l]
 |[],_=>rfl
 |a::l,h=>by unfold Bf;rw [if_neg (h a AX),Qb c l fun b d=>h b (A2 _ d)]
def MP (c:Nat):∀l k,BV c l k=[]↔∀a∈l,a≠c
 |[],k=>by simp [BV]
 |a::l,k=>by
  unfold BV;split
  ·rename_i h;subst h;simp
  ·rename_i h;rw [MP c l];simp [h]
def MQ (c:Nat):∀l k,(BV c l k).length≤l.length
 |[],k=>EI _
 |a::l,k=>by
  unfold BV;split
  ·simp;exact MQ c l _
  ·simp;exact Nat.le_succ_of_le (MQ c l _)
def Qc (c:Nat):∀l k,∀i∈BV c l k,k≤i
 |[],k,i,h=>by cases h
 |a::l,k,i,h=>by
  unfold BV at h;split at h
  ·rcases qa6.mp h with rfl |h
   ·exact AK _
   ·exact Lm (Qc c l _ i h)
  ·exact Lm (Qc c l _ i h)
def Qd (L:List Nat) (c:Nat):∀(n k s:Nat),k+n=L.length→s≤k→(∀i,s≤i→i<k→∀h:i<L.length,L[i]≠c)→
 (((s::(BV c (L.drop k) k).map (·+ 1)).zip ((BV c (L.drop k) k)++[L.length])).map fun p=>(tx L).cps.toList.extract p.1 p.2)=(match Bf c (L.drop k) with
   |[]=>[L.extract s k]
   |p::a=>(L.extract s k++p)::a)
 |0,k,s,e,j,f=>by
  have:L.drop k=[]:=List.drop_eq_nil_of_le (by omega);rw [this];have hk:L.length=k:=by omega
  simp [BV,Bf,hk]
 |n+1,k,s,e,j,f=>by
  have hk:k<L.length:=by omega
  rw [G3 hk,BV,Bf]
  by_cases z:L[k]=c
  ·rw [if_pos z,if_pos z];have b:=Qd L c n (k+1) (k+1) (by omega) (AK _) (fun i g l=>by omega);rw [Bk,List.cons_append,Lk,Bk,b];have m:L.extract (k+1) (k+1)=[]:=by simp
   rw [m];cases d:Bf c (L.drop (k+1)) with
   |nil=>exact absurd d (Qa _ _)
   |cons p a=>simp
  ·rw [if_neg z,if_neg z];have b:=Qd L c n (k+1) s (by omega) (by omega) (fun i g l o=>by
    by_cases q:i=k
    ·subst q;exact z
    ·exact f i g (by omega) o)
   rw [b];have r:L.extract s (k+1)=L.extract s k++[L[k]]:=by
    rw [List.extract_eq_drop_take,List.extract_eq_drop_take];have t:k - s<(L.drop s).length:=by rw [Lo];omega
    rw [show k+1 - s=(k - s)+1 by omega,List.take_succ_eq_append_getElem t]
    congr 2
    rw [List.getElem_drop]
    congr 1
    omega
   rw [r];cases d:Bf c (L.drop (k+1)) with
   |nil=>exact absurd d (Qa _ _)
   |cons p a=>simp
def lE (l:List Nat) (c n:Nat) (h:l.length≤n):partsBetween (tx l) (occurrences (tx l) (tx [c]) 0 (tx l).length n) (tx [c]).length=(Bf c l).map tx:=by
 rw [KN,J5 (BJ (MQ c l 0) h)];unfold partsBetween;have:=Qd l c l.length 0 0 (by omega) (AK _) (fun i d f=>by omega);have e:Bf c l=(match Bf c (l.drop 0) with
  |[]=>[l.extract 0 0]
  |p::a=>(l.extract 0 0++p)::a):=by
  rw [Lw];cases b:Bf c l with
  |nil=>exact absurd b (Qa _ _)
  |cons p a=>simp
 rw [e,←this];rw [BQ,Lw]
 show List.map _ _=List.map _ _
 apply Cf;intro p _
 show (⟨(tx l).cps.extract p.1 p.2⟩:Str)=⟨((tx l).cps.toList.extract p.1 p.2).toArray⟩
 congr 1
 simp
noncomputable def FC (c:Nat):List Nat→Option (List Nat×List Nat)
 |[]=>none
 |a::l=>if a=c then some ([],l) else (FC c l).map fun p=>(a::p.1,p.2)
def cutL_none (c:Nat):∀l,FC c l=none↔∀a∈l,a≠c
 |[]=>by simp [FC]
 |a::l=>by
  unfold FC;split
  ·rename_i h;subst h;simp
  ·rename_i h;simp [h,cutL_none c l]
def WJ (c:Nat):∀l k,FC c l=(match BV c l k with
 |[]=>none
 |i::_=>some (l.take (i - k),l.drop (i - k+1)))
 |[],k=>rfl
 |a::l,k=>by
  unfold FC BV;split
  ·simp
  ·rw [WJ c l (k+1)];cases e:BV c l (k+1) with
   |nil=>rfl
   |cons i r=>have h:k+1≤i:=Qc c l (k+1) i (by rw [e];exact AX);simp;rw [show i - k=(i - (k+1))+1 by omega];simp
section
variable {X:Cx} {E:XK}
def lF {t:Tok} (h:Gl X x) (a:X.mg x=some (.str z t)) (b:(x==("__debug__":Str))=false:=by decide):Ev X E (.Name x pos) (mC (.str z)):=
 Hk (OB (v:=.str z) h a ⟨t,rfl⟩ b) fun _ _=>by simp [DV]
def KO (f:Str→Str→Option D):D→D→HD→Out D:=fun x y h=>match x,y with
 |.str a,.str b=>(match f a b with
  |some d=>.ok d h
  |none=>.stuck)
 |_,_=>.stuck
def lG (f:Str→Str→Option D) (x y:D) (h:HD):Em (KO f x y h):=by
 unfold KO
 repeat' split
 all_goals trivial
def lH {id:String} {f:Str→Str→Option D} (h:∀(p:PQ) (s:Shared) (c:L2.St) (H:Hp) (a b:Str) (t u:Tok) (d:D) (Q:VK),Inv X p c H s→f a b=some d→(∀v:V,(∀m H,DV X.K m H d v)→Q v H)→wpAny (model X.prog X.w) X.A (call (.builtin id) [.str a t,.str b u]) (EP X p c Q) X.xe s):GL X id (KO f):=by
 intro p s c H m o x y v w u z Q I i e g r j q;unfold KO at q;split at q
 ·rename_i a b;split at q
  ·rename_i d k;simp only [DV] at e g;subst e g;obtain ⟨t,rfl⟩:=r;obtain ⟨l,rfl⟩:=j;exact h p s c H a b t l d Q I k fun v n=>Bb i q (n m H)
  ·exact q.elim
 ·exact q.elim
def MR:D→D→HD→Out D:=KO fun a b=>some (.int (Txt.find a b))
def lI:GL X "str.find" MR:=lH fun p s c H a b t u d Q I e q=>by cases e;exact SC.find ⟨.int (Txt.find a b),H,I.tok _,⟨_,rfl⟩,q _ fun _ _=>by simp [DV]⟩
def DZ:D→D→HD→Out D:=fun x y h=>match x,y with
 |.str a,.str ⟨⟨[c]⟩⟩=>if a.length≤sizeLine then BG ((Bf c a.cps.toList).map fun l=>.str (tx l)) h else .stuck
 |_,_=>.stuck
def lJ:Em (BG d h):=by
 unfold BG
 split<;>trivial
def lK (x y:D) (h:HD):Em (DZ x y h):=by
 unfold DZ
 repeat' split
 all_goals first |trivial |exact lJ
def WK:∀(l:List Str) (t:Nat),Vals (l.map V.str) (strsFrom t l)
 |[],_=>.nil
 |x::l,t=>.cons ⟨t,rfl⟩ (WK l (t+1))
def WL {K:Frag}:∀(l:List (List Nat)),DVs K m H (l.map fun l=>.str (tx l)) ((l.map tx).map V.str)
 |[]=>.nil
 |x::l=>.cons (by simp [DV]) (WL l)
def lL {l:List Nat} {c:Nat} (h:c∈l):Builtin.Str.strKind (tx [c])≤Builtin.Str.strKind (tx l):=by
 unfold Builtin.Str.strKind;simp only [List.all_toArray,List.all_cons,List.all_nil,Bool.and_true,qaT,decide_eq_true_eq]
 by_cases a:∀x∈l,x<256
 ·rw [if_pos a,if_pos (a c h)];exact AK _
 ·rw [if_neg a]
  by_cases b:∀x∈l,x<65536
  ·rw [if_pos b];split
   ·decide
   ·rw [if_pos (b c h)];exact AK _
  ·rw [if_neg b]
   repeat' split
   all_goals decide
def lM:GL X "str.split" DZ:=by
 intro p s A H m J x y v L u M Q I B i j r C q;unfold DZ at q;split at q
 ·rename_i a c;split at q
  ·rename_i G;simp only [DV] at i j;subst i j;obtain ⟨t,rfl⟩:=r;obtain ⟨d,rfl⟩:=C;obtain ⟨⟨l⟩⟩:=a;obtain ⟨k,AQ⟩:=Gu B (WL (K:=X.K) (m:=m) (H:=H) (Bf c l)) q;have n:H s.heap.objs.size=none:=I.hok.fresh (AK _);have one:(Bf c l)=[l]→EP X p A Q (.ref s.heap.objs.size) {s with heap:=s.heap.push {cls:=.type "list",data:=.seq [Value.str (tx l) t].toArray}}:=fun e=>by rw [e] at AQ;exact ⟨.ref s.heap.objs.size,Av H s.heap.objs.size (.lst [.str (tx l)]),I.laid (t':=s.toks) (fun b u e=>AW _ e) (AK _) ⟨by show 1≤sizeLine;decide,[.str (tx l) t],0,.cons ⟨t,rfl⟩ .nil,Bx _ rfl⟩,rfl,AQ _ n⟩
   by_cases h:(decide ((tx l).length<(tx [c]).length)||decide (Builtin.Str.strKind (tx l)<Builtin.Str.strKind (tx [c])))=true
   ·refine call_meets F.slot_str_split (typeIs_str _ _ _) F.entry_str_split (F.args_str_split_2 _ _) (meets_str_split_cannot_occur (tx l) (tx [c]) t d h) (one (Qb c l fun b o z=>?_));subst z;rw [Bool.or_eq_true,decide_eq_true_eq,decide_eq_true_eq,C6,C6] at h;rcases h with h |h
    ·cases l with
     |nil=>cases o
     |cons=>simp at h
    ·exact absurd h (Nat.not_lt.mpr (lL o))
   ·have h:(decide ((tx l).length<(tx [c]).length)||decide (Builtin.Str.strKind (tx l)<Builtin.Str.strKind (tx [c])))=false:=by simpa using h
    have f:=KN l c ((tx l).length+1);rw [C6,J5 (Nat.le_succ_of_le (MQ c l 0)),←C6 l] at f
    by_cases g:BV c l 0=[]
    ·refine call_meets F.slot_str_split (typeIs_str _ _ _) F.entry_str_split (F.args_str_split_2 _ _) (meets_str_split_not_found (tx l) (tx [c]) t d h rfl (by rw [f,g];rfl)) (one (Qb c l ((MP c l 0).mp g)))
    ·have w:Builtin.Str.partsBetween (tx l) (Builtin.Str.occurrences (tx l) (tx [c]) 0 (tx l).length ((tx l).length+1)) (tx [c]).length=(Bf c l).map tx:=lE l c _ (by rw [C6];exact IS _);refine call_meets F.slot_str_split (typeIs_str _ _ _) F.entry_str_split (F.args_str_split_2 _ _) (meets_str_split_sep (tx l) (tx [c]) t d h rfl (by rw [f];cases e:BV c l 0 with
      |nil=>exact absurd e g
      |cons=>rfl) G (by rw [w];simpa using k)) ?_
     rw [w];exact ⟨.ref s.heap.objs.size,Av H s.heap.objs.size (.lst (((Bf c l).map tx).map V.str)),I.laid (fun b u e=>AW _ e) (AK _) ⟨k,_,0,WK _ _,Bx _ rfl⟩,rfl,AQ _ n⟩
  ·exact q.elim
 ·exact q.elim
def BH (c:Nat) (l:List Nat):List Nat×List Nat×List Nat:=match FC c l with
 |some (a,b)=>(a,[c],b)
 |none=>(l,[],[])
noncomputable def F6:D→D→HD→Out D:=fun x y h=>match x,y with
 |.str a,.str ⟨⟨[c]⟩⟩=>if a.length≤sizeLine then .ok (.tup [.str (tx (BH c a.cps.toList).1),.str (tx (BH c a.cps.toList).2.1),.str (tx (BH c a.cps.toList).2.2)]) h else .stuck
 |_,_=>.stuck
def lN (x y:D) (h:HD):Em (F6 x y h):=by
 unfold F6
 repeat' split
 all_goals trivial
def lO:GL X "str.partition" F6:=by
 intro p s n H m C x y v G u J Q I o f g r w q;unfold F6 at q;split at q
 ·rename_i a c;split at q
  ·rename_i z;simp only [DV] at f g;subst f g;obtain ⟨t,rfl⟩:=r;obtain ⟨j,rfl⟩:=w;obtain ⟨⟨l⟩⟩:=a;have k:H s.heap.objs.size=none:=I.hok.fresh (AK _);have AQ:=Ho (vs:=[.str (tx (BH c l).1),.str (tx (BH c l).2.1),.str (tx (BH c l).2.2)]) o (.cons (by simp [DV]) (.cons (by simp [DV]) (.cons (by simp [DV]) .nil))) q;refine call_meets F.slot_str_partition (typeIs_str _ _ _) F.entry_str_partition (F.args_str_partition_2 _ _) (meets_str_partition (tx l) (tx [c]) t j rfl z) ?_;have h:=WJ c l 0;rw [KN];cases e:BV c l 0 with
   |nil=>
    rw [e] at h;have d:BH c l=(l,[],[]):=by unfold BH;rw [h]
    rw [d] at AQ;exact ⟨.ref s.heap.objs.size,Av H s.heap.objs.size (.tup [.str (tx l),.str (tx []),.str (tx [])]),I.laid (fun b u e=>AW _ e) (AK _) ⟨by show 3≤sizeLine;decide,_,.cons ⟨_,rfl⟩ (.cons ⟨_,rfl⟩ (.cons ⟨_,rfl⟩ .nil)),IsTup.new _ _,wH.new⟩,rfl,AQ _ k⟩
   |cons i r=>
    rw [e] at h;have d:BH c l=(l.take i,[c],l.drop (i+1)):=by unfold BH;rw [h];rfl
    rw [d] at AQ;have A:Builtin.Str.strSub (tx l) 0 i=tx (l.take i):=by
     show (⟨(tx l).cps.extract 0 i⟩:Str)=_
     congr 1
     simp
    have B:Builtin.Str.strSub (tx l) (i+(tx [c]).length) (tx l).length=tx (l.drop (i+1)):=by
     show (⟨(tx l).cps.extract (i+1) (tx l).length⟩:Str)=_
     congr 1
     rw [C6];apply Array.ext';simp;rw [J5 (by rw [Lo];exact AK _)]
    show EP X p n Q _ {s with toks:=s.toks+1+1,heap:=s.heap.push {cls:=.type "tuple",data:=.seq [.str (Builtin.Str.strSub (tx l) 0 i) s.toks,.str (tx [c]) j,.str (Builtin.Str.strSub (tx l) (i+(tx [c]).length) (tx l).length) (s.toks+1)].toArray}}
    rw [A,B];exact ⟨.ref s.heap.objs.size,Av H s.heap.objs.size (.tup [.str (tx (l.take i)),.str (tx [c]),.str (tx (l.drop (i+1)))]),I.laid (fun b u e=>AW _ e) (AK _) ⟨by show 3≤sizeLine;decide,_,.cons ⟨_,rfl⟩ (.cons ⟨_,rfl⟩ (.cons ⟨_,rfl⟩ .nil)),IsTup.new _ _,wH.new⟩,rfl,AQ _ k⟩
  ·exact q.elim
 ·exact q.elim
end
def lP (x y:D) (h:HD):Em (MR x y h):=lG _ x y h
section
variable {X:Cx} {E:XK}
def WM (x:Str):It:=⟨fun i _=>i<x.cps.size,fun i H v h=>h=H∧∃c,x.cps[i]?=some c∧v=.str ⟨#[c]⟩,fun i _=>x.cps.size≤i⟩
def lQ {K:Frag} {x:Str} {t:Tok} {n:String} (O:n="str_ascii_iterator"∨n="str_iterator") (R:∀S:Around,S.handled=none→Walks P w S a [a] [a] x.cps.size (SignAt x) (fun i h=>h.IsStrIter a n x t i)):FP P w K U (WM x) [a] a (fun i h=>h.IsStrIter a n x t i∧i≤x.cps.size) where
 mem:=by simp
 obj:=fun i h st b f=>by
  have e:b=a:=by simpa using f
  subst e;obtain ⟨⟨o,e,c,d⟩,_⟩:=st;exact ⟨o,e,fun v z=>by rw [d] at z;cases z⟩
 keep:=fun i h l st k=>by obtain ⟨⟨o,e,c,d⟩,r⟩:=st;exact ⟨⟨o,k a (by simp) o e,c,d⟩,r⟩
 item:=by intro X y B C F i p s T H E I m st q;subst y B C;obtain ⟨G,J,W,L,M,N⟩:=m a (by simp);refine (R X.A (I.ok.hd F)).item i s _ E q st.1 fun v l g Y j hk=>?_;have Z:Inv X p T H {s with heap:=l,toks:=g}:=I.turned (t':=g) (fun b o f e=>hk b o (by simpa using f) e) G J L M N;obtain ⟨c,u,e1,rfl⟩:=Y;obtain ⟨o,e,c2,d⟩:=id j;exact ⟨_,rfl,LR (s:={s with heap:=l,toks:=g}) e c2 d (by rcases O with rfl |rfl<;>decide) ⟨.str ⟨#[c]⟩,H,Z,⟨u,rfl⟩,⟨rfl,c,e1,rfl⟩,⟨j,q⟩,fun b f=>(m b f).1⟩⟩
 done:=by intro X y B C F i p s T H E I m st q;subst y B C;obtain ⟨G,J,W,L,M,N⟩:=m a (by simp);obtain ⟨st,hi⟩:=st;have e:i=x.cps.size:=Ls hi q;subst e;exact (R X.A (I.ok.hd F)).done s _ E st fun l g eb=>⟨rfl,I.turned (t':=g) (fun b o f e=>eb b o (by simpa using f) e) G J L M N⟩
 self:=fun A i s Q E st h=>by
  rcases O with rfl |rfl
  ·exact wpAny_pyIter_striter_ascii st.1 h
  ·exact wpAny_pyIter_striter_wide st.1 h
def lR {m:TE} (u:PE X l m):PI X k l (fun d H R=>m d H fun x f=>∃z,x=.str z∧R (WM z) f):=by
 intro p s d H R I h;refine Ap (u p s d H _ I h) fun v a c=>?_;obtain ⟨x,f,g,w,z,rfl,q⟩:=c;obtain ⟨t,rfl⟩:=w;have AQ:∀(n:String),(n="str_ascii_iterator"∨n="str_iterator")→(∀A:Around,A.handled=none→Walks X.prog X.w A a.heap.objs.size [a.heap.objs.size] [a.heap.objs.size] z.cps.size (SignAt z) (fun i h=>h.IsStrIter a.heap.objs.size n z t i))→
  LQ X p d k R (.ref a.heap.objs.size) {a with heap:=a.heap.push {cls:=.type n,data:=.fields #[.str z t,.int 0 0]}}:=fun n y B=>
  ⟨a.heap.objs.size,[a.heap.objs.size],_,_,f,rfl,g.kept (t':=a.toks) fun b o e=>AW _ e,lQ y B,⟨⟨_,Bx _ rfl,rfl,rfl⟩,EI _⟩,fun b C=>by
   have e:b=a.heap.objs.size:=by simpa using C
   subst e;exact g.fpOk (AK _) (g.hok.fresh (AK _)),q⟩
 cases r:z.cps.all (·< 128)
 ·exact wpAny_pyIter_wide r (AQ _ (.inr rfl) fun A j=>Walks.strWide j _ z t)
 ·exact wpAny_pyIter_ascii r (AQ _ (.inl rfl) fun A j=>Walks.strAscii j _ z t)
def KP (z:Str):List D:=z.cps.toList.map fun c=>.str (tx [c])
def MU (d:D) (h:HD):Out (List D×Bj):=match d with
 |.str z=>.ok (KP z,[]) h
 |_=>.stuck
def KQ (f:ME):MI:=fun a h=>(f a h).bind MU
def lS (j:Ev X E a f):DP X E t a (KQ f):=
 Jd (lR j) fun C H R ⟨m,k,h,l,n,p⟩=>⟨m,k,h,l,n,wa.bind p fun x F v o s u G I d r q=>by
  clear u;unfold MU at q;split at q
  ·rename_i z;simp only [rD,DV] at r;subst r;refine ⟨z,rfl,q _ o s (AI _) (.refl _) d fun i J L M N O e _=>⟨fun g=>?_,fun g=>?_⟩⟩
   ·have b:i<z.cps.size:=by simpa [KP] using g
    refine ⟨b,fun y P z=>?_⟩;obtain ⟨w,c,A,B⟩:=z;subst w B;refine ⟨.refl _,e,.str (tx [c]),?_,by simp [DV]⟩;simp [KP,A]
   ·show z.cps.size≤i
    have b:i=z.cps.size:=by simpa [KP] using g
    omega
  ·exact q.elim⟩
end
section
variable {f:ME} {ρ:Ag} {h:HD} {Q:D→HD→Prop} {lo hi:MO} {QI:List D×Bj→HD→Prop}
@[simp] theorem vZ:Wp (KQ f ρ h) QI=Wp (f ρ h) fun d a=>Wp (MU d a) QI:=by unfold KQ;rw [AL]
end
end LS
namespace Tp
open PySem PySem.W PySem.Spec PySem.Calls PyProof.Rows
def lT {K:Frag} (e:Ot K n v=true):∃t,nsIn K mainGlobals n=some (some (.str v t)):=by
 unfold Ot at e;split at e
 ·rename_i z t h;have:z=v:=by obtain ⟨⟨z⟩⟩:=z;obtain ⟨⟨v⟩⟩:=v;simpa using e
  subst this;exact ⟨t,h⟩
 ·cases e
def strsIn_of {K:Frag}:∀{l:List (Str×Str)},LD K l=true→∀(i:Nat) n v,l[i]?=some (n,v)→∃t,nsIn K mainGlobals n=some (some (.str v t))
 |[],_,i,n,v,h=>by simp at h
 |p::r,e,0,n,v,h=>by simp only [Dc,Nat.zero_lt_succ,getElem?_pos,List.getElem_cons_zero,Option.some.injEq] at h;subst h;exact lT (qbJ.mp e).1
 |p::r,e,i+1,n,v,h=>strsIn_of (qbJ.mp e).2 i n v (by simpa using h)
def SaysX (W:wR) (ex:Frag→Bool) (_:World) (h:Heap):Prop:=∃(K:Frag) (c T:Addr),K.In h∧(MK W K c T∧ex K=true)∧h.get? T=some (tabObj #[])
def SaysX.keeps {W:wR} {ex:Frag→Bool} (w:World) (h a:Heap) (x:SaysX W ex w h) (k:∀b o,h.get? b=some o→a.get? b=some o):SaysX W ex w a:=by obtain ⟨K,c,T,d,e,f⟩:=x;exact ⟨K,c,T,d.keeps k,e,k _ _ f⟩
end Tp
namespace LS
open PySem PySem.Spec PyProof.Rows L2 PySem.W PySem.Calls
def By (s:List Nat):List (List Nat)→List Nat
 |[]=>[]
 |x::r=>x++r.flatMap fun y=>s++y
def WN (s:List Nat):∀(r:List (List Nat)) (x:List Nat),((r.map tx).foldl (fun a p=>a++(tx s).cps++p.cps) (tx x).cps)=(tx (x++r.flatMap fun y=>s++y)).cps
 |[],x=>by simp
 |y::r,x=>by
  rw [Bk,Kb];have e:(tx x).cps++(tx s).cps++(tx y).cps=(tx (x++(s++y))).cps:=by simp
  rw [e,WN s r];simp
def lU (s:List Nat) (l:List (List Nat)):JD (tx s) (l.map tx)=tx (By s l):=by
 cases l with
 |nil=>rfl
 |cons x r=>
  cases r with
  |nil=>simp [JD,By]
  |cons y r=>
   show Builtin.Str.glued (tx s) ((x::y::r).map tx)=_
   unfold Builtin.Str.glued;have:=WN s (y::r) x;exact congrArg Str.mk this
def WO {b:Type} (e:b→List Nat):∀a:List b,HX (a.map fun x=>D.str (tx (e x)))=some ((a.map e).map tx)
 |[]=>rfl
 |x::a=>by simp only [Bk,HX,WO e a];rfl
def lV (n m:Nat) (l:List (List Nat)) (h:∀x∈l,x.length≤n):∀a,(l.map tx).foldl (fun (x:Nat) (y:Str)=>x+y.length+m) a≤a+l.length*(n+m):=by
 induction l with
 |nil=>intro a;simp
 |cons x r i=>intro a;rw [Bk,Kb];have b:=i (fun y c=>h y (A2 _ c)) (a+(tx x).length+m);have d:=h x AX;rw [C6] at b ⊢;rw [Dc,Ha];omega
def WQ (s:List Nat) (n:Nat):∀(l:List (List Nat)),(∀x∈l,x.length≤n)→(By s l).length≤l.length*(n+s.length)
 |[],_=>by simp [By]
 |x::r,h=>by
  have:∀(r:List (List Nat)),(∀x∈r,x.length≤n)→(r.flatMap fun y=>s++y).length≤r.length*(n+s.length):=fun r b=>by
   induction r with
   |nil=>simp
   |cons y r i=>have c:=i fun z a=>b z (A2 _ a);have d:=b y AX;simp only [IK,DE,Dc,Ha];omega
  have c:=this r fun z a=>h z (A2 _ a);have d:=h x AX;simp only [By,DE,Dc,Ha];omega
def WR {c:Type} {e:c→List Nat} {a:List c} {s:List Nat} {l n:Nat} (f:h[l]?=some (.lst (a.map fun x=>.str (tx (e x))))) (g:∀x∈a,(e x).length≤n) (d:a.length*(n+s.length)≤sizeLine):
 Dq (.str (tx s)) (.loc l) h=.ok (.str (tx (By s (a.map e)))) h:=by
 have b:∀x∈a.map e,x.length≤n:=fun x i=>by obtain ⟨y,j,rfl⟩:=qaO.mp i;exact g y j
 simp only [Dq,f,WO,lU];rw [if_pos];refine ⟨?_,?_⟩
 ·rw [List.foldl_toArray];have:=lV n (tx s).length (a.map e) b 0;rw [C6] at this;rw [Ci,Nat.zero_add] at this;rw [C6];exact BJ this d
 ·rw [C6];have:=WQ s n (a.map e) b;rw [Ci] at this;exact BJ this d
def JF (sep:List Nat) (cs:List (Option Nat)) (it:MI) (sg:MG) (f:ME):ME:=Ck Cn Dq (mC (.str (tx sep))) (Ax cs it sg AH f)
def MV {c:Type} {cs:List (Option Nat)} {it:MI} {sg:MG} {f:ME} {src:Bj} {xs:List c} {φ:c→D} {sep:List Nat} (e:c→List Nat) (b:c→Ag) (n:Nat) (i:Bq (it ρ h) h (xs.map φ) src) (j:∀x∈xs,sg (φ x) (Cs cs ρ)=some (b x)) (k:∀x∈xs,∀a,Sm h a→Pu (f (b x) a) a (.str (tx (e x))))
 (d:xs.length≤sizeLine) (m:∀x∈xs,(e x).length≤n) (o:xs.length*(n+sep.length)≤sizeLine):Pu (JF sep cs it sg f ρ h) h (.str (tx (By sep (xs.map e)))):=by
 unfold Pu JF;rw [JA]
 show Wp (Ax cs it sg AH f ρ h) _
 refine CV (fun _=>true) (fun x=>.str (tx (e x))) b i d j (fun x d a s=>(.ok:Pu (.ok true a) a true)) (fun x d _ a s=>k x d a s) fun l a s g=>?_;rw [B8] at g;rw [WR g m o];exact ⟨rfl,s⟩
def lW {l:List Nat} {i:Nat} (e:a[i]?=some (some (.str (tx l)))):Bq (KQ (Ad i) a h) h (l.map fun c=>.str (tx [c])) []:=by simp [Bq,Sm.refl,A7,Ad,e,MU,KP]
def lX (a b:List Nat):(tx a++tx b:Str)=tx (a++b):=by
 show (⟨a.toArray++b.toArray⟩:Str)=_
 simp
def WS {a b:List Nat} (c:a.length+b.length≤sizeLine):Ao (.str (tx a)) (.str (tx b)) h=.ok (.str (tx (a++b))) h:=by simp only [Ao,C6,lX];rw [if_pos c]
def lY {l:List Nat} {c:Nat}:MR (.str (tx l)) (.str (tx [c])) h=.ok (.int (JE c l)) h:=by
 show Out.ok (D.int (Txt.find (tx l) (tx [c]))) h=_
 rw [lD]
def WT {l:List Nat} {c:Nat} (a:l.length≤sizeLine):DZ (.str (tx l)) (.str (tx [c])) h=BG ((Bf c l).map fun l=>.str (tx l)) h:=by
 show (if (tx l).length≤sizeLine then BG ((Bf c l).map fun l=>.str (tx l)) h else .stuck)=_
 rw [C6,if_pos a]
def lZ {l:List Nat} {c:Nat} (a:l.length≤sizeLine):F6 (.str (tx l)) (.str (tx [c])) h=.ok (.tup [.str (tx (BH c l).1),.str (tx (BH c l).2.1),.str (tx (BH c l).2.2)]) h:=by
 show (if (tx l).length≤sizeLine then Out.ok (D.tup [.str (tx (BH c l).1),.str (tx (BH c l).2.1),.str (tx (BH c l).2.2)]) h else .stuck)=_
 rw [C6,if_pos a]
def WU {l:List Nat} {k c:Nat} (a:l.length≤sizeLine) (e:l[k]?=some c):GN (.str (tx l)) (.int (k:Nat)) h=.ok (.str (tx [c])) h:=by
 have hk:k<l.length:=(qa1.mp e).1;have b:Cu l ((k:Nat):Int)=some c:=by unfold Cu Dy;rw [if_pos (by omega),if_pos (by omega)];simpa using e
 show (if (tx l).length≤sizeLine then (match Cu l ((k:Nat):Int) with
  |some c=>Out.ok (D.str ⟨#[c]⟩) h
  |none=>.stuck) else .stuck)=_
 rw [C6,if_pos a,b]
def WV (a:List (List Int)):D:=.tup (a.map fun r=>.tup (r.map D.int))
section
variable {K:Frag} {m:List Addr} {H:Hp}
def WW:∀{r:List Int} {a:List Value},LF r a=true→∃v,Vals v a∧DVs K m H (r.map D.int) v
 |[],[],_=>⟨[],.nil,.nil⟩
 |[],_::_,h=>by cases h
 |i::r,[],h=>by cases h
 |i::r,u::a,h=>by
  cases u with
  |int j t=>simp only [LF,CP,decide_eq_true_eq] at h;obtain ⟨rfl,h⟩:=h;obtain ⟨v,b,c⟩:=WW h;exact ⟨.int i::v,.cons ⟨t,rfl⟩ b,.cons (by simp [DV]) c⟩
  |_=>cases h
def WX {f:List Value→Bool} (h:LG K f u=true) (g:∀c,f c=true→∃b,Vals b c∧DVs K m H d b):∃v,RelV v u∧DV K m H (.tup d) v:=by
 unfold LG at h;split at h
 ·rename_i a;split at h
  ·rename_i n i q s e;simp only [CP,decide_eq_true_eq] at h;obtain ⟨⟨rfl,j⟩,k⟩:=h;obtain ⟨b,l,o⟩:=g _ k;refine ⟨.ref a,rfl,?_⟩;simp only [DV];exact ⟨a,b,rfl,.inr ⟨_,i,q,e,rfl,rfl,rfl,BJ j (by unfold sizeLine;omega),l⟩,o⟩
  ·cases h
 ·cases h
def WY:∀{c:List (List Int)} {a:List Value},LH K c a=true→∃b,Vals b a∧DVs K m H (c.map fun r=>.tup (r.map D.int)) b
 |[],[],_=>⟨[],.nil,.nil⟩
 |[],_::_,h=>by cases h
 |_::_,[],h=>by cases h
 |r::c,u::a,h=>by simp only [LH,CP] at h;obtain ⟨v,d,e⟩:=WX (m:=m) (H:=H) h.1 fun a z=>WW z;obtain ⟨b,f,g⟩:=WY h.2;exact ⟨v::b,.cons d f,.cons e g⟩
end
section
variable {X:Cx} {E:XK}
def l0 {r:List (List Int)} (c:Gl X n) (b:brdIn X.K n r=true) (d:(n==("__debug__":Str))=false:=by decide):Ev X E (.Name n p) (mC (WV r)):=by
 intro a s f H Q I z;unfold brdIn at b;split at b
 ·rename_i v e;have g:X.mg n=some v:=mg_of I.mod.kin I.mod.glob e;obtain ⟨m,l,h,i,o,q⟩:=z;obtain ⟨w,j,k⟩:=WX (m:=m) (H:=H) b fun t z=>WY z;refine OB (v:=w) (u:=v) c g j d a s f H Q I ?_;exact q w m H (AI _) (.refl _) i k
 ·cases b
end
noncomputable def putD (f:Str) (d:D):List (Str×D)→List (Str×D)
 |[]=>[(f,d)]
 |p::r=>if p.1=f then (f,d)::r else p::putD f d r
section
variable {K:Frag} {m:List Addr} {H:Hp}
def FDs.len:∀{fs:List (Str×D)} {a:List (Str×V)},FDs K m H fs a→fs.length=a.length
 |[],_,h=>by cases h;rfl
 |_::_,_,h=>by obtain ⟨v,r,rfl,_,t⟩:=h;simp [t.len]
def FDs.get:∀{fs:List (Str×D)} {a:List (Str×V)} {f:Str} {d:D},FDs K m H fs a→fs.lookup f=some d→∃v,a.lookup f=some v∧DV K m H d v
 |[],_,_,_,_,e=>by cases e
 |p::_,_,f,d,h,e=>by
  obtain ⟨v,r,rfl,b,t⟩:=h;rw [E4] at e ⊢;cases q:f==p.1 with
  |true=>rw [q] at e;cases e;exact ⟨v,rfl,b⟩
  |false=>rw [q] at e;exact t.get e
def FDs.none:∀{fs:List (Str×D)} {vs:List (Str×V)} {f:Str},FDs K m H fs vs→fs.lookup f=none→vs.lookup f=none
 |[],_,_,h,_=>by cases h;rfl
 |p::_,_,f,h,e=>by
  obtain ⟨v,r,rfl,d,t⟩:=h;rw [E4] at e ⊢;cases q:f==p.1 with
  |true=>rw [q] at e;cases e
  |false=>rw [q] at e;exact t.none e
end
def D0 (n f:Str):D→HD→Out D:=fun x h=>match x with
 |.loc l=>(match h[l]? with
  |some (.ins a fs)=>if a=n then (match fs.lookup f with
   |some d=>.ok d h
   |none=>.stuck) else .stuck
  |_=>.stuck)
 |_=>.stuck
def BN (n:Str) (g:ME) (f:Str):ME:=fun a h=>(g a h).bind (D0 n f)
def KR (K:Frag) (n:Str) (fs:List Str):Prop:=∃C,nsIn K mainGlobals n=some (some (.ref C))∧Cls K C∧∀f∈fs,wO K C f
section
variable {X:Cx} {E:XK}
def ma {n f:Str} {i:List Str} (c:KR X.K n i) (k:Ev X E e g) (o:f∈i:=by decide) (s:attributeBase e f X.env (eval e X.env)=eval e X.env:=by rfl):Ev X E (.Attribute e f pos) (BN n g f):=
 BR (dh k s) fun T H Q z=>by
  obtain ⟨m,t,h,u,w,p⟩:=z;refine ⟨m,t,h,u,w,wa.bind p fun x U v W Y y Z k1 b r q=>?_⟩;clear y;unfold D0 at q;split at q
  ·rename_i l;split at q
   ·rename_i n' fs A;split at q
    ·rename_i B;subst B;split at q
     ·rename_i d F;simp only [rD,DV] at r;obtain ⟨a,rfl,G⟩:=r;obtain ⟨C,I,J,j,L,M⟩:=b.cells l _ a A G;obtain ⟨C',N,O,P⟩:=c;rw [N] at j;cases j;obtain ⟨v,R,S⟩:=M.get F;exact ⟨a,C,I,J,v,rfl,L,O,P f o,R,Bb b q S⟩
     ·exact q.elim
    ·exact q.elim
   ·exact q.elim
  ·exact q.elim
def WZ {K:Frag} (a:DV K m H d v):∀{fs:List (Str×D)} {b:List (Str×V)},FDs K m H fs b→FDs K m H (putD f d fs) (CB f v b)
 |[],_,h=>by cases h;exact ⟨v,[],rfl,a,rfl⟩
 |p::r,_,h=>by
  obtain ⟨w,c,rfl,e,t⟩:=h;unfold putD CB
  by_cases q:p.1=f
  ·rw [if_pos q];simp only [q,beq_self_eq_true,if_true];exact ⟨v,c,rfl,a,t⟩
  ·rw [if_neg q];have g:(p.1==f)=false:=by simpa using q
   simp only [g,Cz,if_false,q];exact ⟨w,_,rfl,e,WZ a t⟩
noncomputable def Es (n f:Str) (x y:D) (a:Ag) (h:HD):Out (Fl×Ag):=match x with
 |.loc l=>(match h[l]? with
  |some (.ins b fs)=>if b=n∧fs.length<1000 then .ok (.nx,a) (h.set l (.ins n (putD f y fs))) else .stuck
  |_=>.stuck)
 |_=>.stuck
def F7 (n:Str) (fo:ME) (f:Str) (b:ME):MS:=fun a h=>(b a h).bind fun y c=>(fo a c).bind fun x d=>Es n f x y a d
def md {n f:Str} {A:List Str} {fo b:ME} {t pos:Pos} (c:KR X.K n A) (S:Ev X E o fo) (T:Ev X E e b) (U:f∈A:=by decide) (W:swapsWith e (some (.Attribute o f t)) pos.line X.env=pure false:=by rfl):Ex X E (.Assign [.Attribute o f t] e pos) (F7 n fo f b):=
 DO (dj S T W) fun Dn Y H z=>by
  obtain ⟨m,B,h,Z,i,p⟩:=z;refine ⟨m,B,h,Z,i,wg.bind p fun y h1 F m1 H1 j G I k r1 q1=>?_⟩;refine ⟨m1,B,h1,k,i.keep G I,wg.bind q1 fun x h2 vx J r s L M d N q=>?_⟩;clear j s;have ry:=DV.keep L M r1;unfold Es at q;split at q
  ·rename_i l;split at q
   ·rename_i n' fs el;split at q
    ·rename_i hn;obtain ⟨rfl,hl⟩:=hn;simp only [rD,DV] at N;obtain ⟨a,rfl,O⟩:=N;obtain ⟨C,g,b,P,u,Q⟩:=d.cells l _ a el O;obtain ⟨C',R,c2,c3⟩:=c;rw [R] at P;cases P;refine ⟨a,C,g,b,rfl,u,c2,c3 f U,by rw [←Q.len];exact hl,?_⟩;have v:Kp r (Av r a (.ins C g (CB f F b))):=.set u rfl;have w:HR X.K J (h2.set l (.ins n' (putD f y fs))) (Av r a (.ins C g (CB f F b))):=d.setCell O u rfl ⟨C,g,_,R,CA,(WZ ry Q).keep (AI _) v⟩;exact q J _ (AI _) v w Y (((i.keep G I).keep L M).keep (AI _) v)
    ·exact q.elim
   ·exact q.elim
  ·exact q.elim
noncomputable def Eu (n mn:Str):D→HD→Out D:=fun x h=>match x with
 |.loc l=>(match h[l]? with
  |some (.ins a fs)=>if a=n∧fs.lookup mn=none then .ok x h else .stuck
  |_=>.stuck)
 |_=>.stuck
def B5 (n mn:Str) (F:TF) (fo:ME) (f:MA):ME:=fun a h=>((fo a h).bind (Eu n mn)).bind fun x b=>(f a b).bind fun c d=>F (x::c) d
structure GP (P:Program) (w:World) (K:Frag) (mg:Str→Option Value) (base:Heap) (n mn:Str) (k:Nat) (F:TF):Prop where
 ex:∃(C f:Addr) (fd:FuncData) (ps:List Str),nsIn K mainGlobals n=some (some (.ref C))∧Cls K C∧LY K C mn f∧wz P w K mg base (Br P w K) k f fd ps (spE K F)∧Binds K fd ps []
def W0 {n mn:Str} {H:Hp} {c:Type} {R:List Addr→Hp→D→c→Prop} {Q:c→Hp→Prop} {k:D→HD→Out D} (g:nsIn X.K mainGlobals n=some (some (.ref C))) (b:HR X.K m h H) (r:DV X.K m H x v) (q:wa X.K R m H E Q ((Eu n mn x h).bind k)):
 ∃a d f,v=.ref a∧H a=some (.ins C d f)∧f.lookup mn=none∧wa X.K R m H E Q (k x h):=by
 unfold Eu at q;split at q
 ·rename_i l;split at q
  ·rename_i u fs i;split at q
   ·rename_i j;obtain ⟨rfl,o⟩:=j;simp only [DV] at r;obtain ⟨a,rfl,p⟩:=r;obtain ⟨w,d,f,e,s,t⟩:=b.cells l _ a i p;rw [g] at e;cases e;exact ⟨a,d,f,rfl,s,t.none o,q⟩
   ·exact q.elim
  ·exact q.elim
 ·exact q.elim
def me {n mn:Str} {k l:Nat} {F:TF} {fo:ME} {o e:Expr} {b pos:Pos} {A:Sem Bool} (B:GP X.prog X.w X.K X.mg X.base n mn k F) (I:wm l X.A) (J:CS (Br X.prog X.w X.K) X E) (L:Ev X E o fo) (M:CU X E (e::d) r) (hk:k≤l:=by decide)
 (g:starEach (e::d) X.env=(false,eval e X.env)::starEach d X.env:=by rfl) (i:(backTo pos (starEach d X.env)).any (·.1)=false:=by rfl)
 (N:eval (.Call (.Attribute o mn b) (e::d) [] pos) X.env=(do
  let s ←eval o X.env
  standAt b.atName
  let (f,first) ←holding [s] (getMethod s mn A)
  callWith pos f first (backTo pos (starEach (e::d) X.env)) (backToKw pos (keywordEach [] X.env))):=by rfl):Ev X E (.Call (.Attribute o mn b) (e::d) [] pos) (B5 n mn F fo r):=by
 obtain ⟨C,f,fd,ps,O,P,R,G,S⟩:=B.ex;refine BR (dC (E:=E) L P R G (I.mono hk) S .nil J M g i N) fun σ H Q z=>?_;obtain ⟨m,t,h,c,u,p⟩:=z;unfold B5 at p;rw [Out.bind_assoc] at p;refine ⟨m,t,h,c,u,wa.bind p fun x T v U H1 w W Y c y q=>?_⟩;clear w;obtain ⟨a,Z,fv,rfl,e2,hl,q⟩:=W0 O c y q;refine ⟨a,Z,fv,rfl,e2,hl,U,t,T,c,u.keep W Y,wa.bind q fun xs h2 vs m2 H2 w p2 k2 j r2 q2=>?_⟩;rw [FO];exact ⟨m2,x::xs,h2,j,.cons (DV.keep p2 k2 y) r2,q2⟩
def mf {n mn:Str} {k d:Nat} {F:TF} {fo:ME} {b pos:Pos} {g:Sem Bool} (i:GP X.prog X.w X.K X.mg X.base n mn k F) (j:wm d X.A) (l:CS (Br X.prog X.w X.K) X E) (s:Ev X E o fo) (hk:k≤d:=by decide)
 (t:eval (.Call (.Attribute o mn b) [] [] pos) X.env=(do
  let e ←eval o X.env
  standAt b.atName
  let (f,first) ←holding [e] (getMethod e mn g)
  callWith pos f first (backTo pos (starEach [] X.env)) (backToKw pos (keywordEach [] X.env))):=by rfl):Ev X E (.Call (.Attribute o mn b) [] [] pos) (B5 n mn F fo Af):=by
 obtain ⟨C,f,S,T,u,w,y,G,A⟩:=i.ex;refine BR (dD (E:=E) s w y G (j.mono hk) A .nil l t) fun U H Q z=>?_;obtain ⟨m,B,h,c,I,p⟩:=z;unfold B5 at p;rw [Out.bind_assoc] at p;refine ⟨m,B,h,c,I,wa.bind p fun x J v L W M Y Z c r q=>?_⟩;clear M;obtain ⟨a,N,O,rfl,P,R,q⟩:=W0 u c r q;exact ⟨a,N,O,rfl,P,R,L,[x],J,c,.cons r .nil,q⟩
noncomputable def EW (n:Str) (F:TF) (f:MA):ME:=fun b h=>(f b h).bind fun x a=>(F (.loc a.length::x) (a++[.ins n []])).bind fun v c=>match v with
 |.non=>.ok (.loc a.length) c
 |_=>.stuck
structure HZ (P:Program) (w:World) (K:Frag) (mg:Str→Option Value) (base:Heap) (n:Str) (k:Nat) (F:TF):Prop where
 ex:∃(C f:Addr) (fd:FuncData) (ps:List Str),nsIn K mainGlobals n=some (some (.ref C))∧Mk K C f∧wz P w K mg base (Br P w K) k f fd ps (spE K F)∧Binds K fd ps []
def W1 {F:TF} {H:Hp} {h:HD} {Q:VK} (o:nsIn X.K mainGlobals n=some (some (.ref C))) (a:HR X.K m h H) (s:DVs X.K m H e j)
 (q:wa X.K (rD X.K) m H E Q ((F (.loc h.length::e) (h++[.ins n []])).bind fun v t=>match v with
  |.non=>.ok (.loc h.length) t
  |_=>.stuck)) (x d:Addr) (w:H x=none) (b:H d=none) (ne:d≠x):spE X.K F (.ref x::j) (Av (Av H d (.own x)) x (.ins C d [])) (fun v y=>v=.non∧Q (.ref x) y) E:=by
 have c:Av H d (.own x) x=none:=by rw [AJ (Ne.symm ne)];exact w
 have k:Kp H (Av (Av H d (.own x)) x (.ins C d [])):=(Kp.new b).trans (.new c);have p:m <+:m++[x]:=II _ _;have f:HR X.K (m++[x]) (h++[.ins n []]) (Av (Av H d (.own x)) x (.ins C d [])):=(a.new b).newCell c ⟨C,d,[],o,CA,rfl⟩;have l:(m++[x])[h.length]?=some x:=by rw [←a.len];simp
 refine ⟨m++[x],.loc h.length::e,h++[.ins n []],f,.cons (by simp only [DV];exact ⟨x,rfl,l⟩) (s.keep p k),wa.bind (q.ahead p k) fun v B u G I z A J g r i=>?_⟩;clear z;split at i
 ·simp only [rD,DV] at r;refine ⟨r,Bb g i ?_⟩;simp only [DV];exact ⟨x,rfl,Hj A l⟩
 ·exact i.elim
def mh {k j:Nat} {F:TF} {e:Expr} (r:HZ X.prog X.w X.K X.mg X.base n k F) (t:wm j X.A) (u:CS (Br X.prog X.w X.K) X E) (v:Gl X n) (w:CU X E (e::b) l) (hk:k+1≤j:=by decide)
 (d:(n==("__debug__":Str))=false:=by decide) (g:starEach (e::b) X.env=(false,eval e X.env)::starEach b X.env:=by rfl) (i:(backTo pos (starEach b X.env)).any (·.1)=false:=by rfl):Ev X E (.Call (.Name n p) (e::b) [] pos) (EW n F l):=by
 obtain ⟨C,f,U,W,o,M,G,y⟩:=r.ex;intro c s A H Q I z;have B:X.mg n=some (.ref C):=mg_of I.mod.kin I.mod.glob o;refine dE (E:=E) M G (t.mono hk) v B y .nil u w d g i c s A H Q I ?_;obtain ⟨m,J,h,a,L,p⟩:=z;refine ⟨m,J,h,a,L,wa.bind p fun Y q Z m1 H1 N p1 k1 a O P=>?_⟩;clear N;intro x R q S T;rw [FO];exact W1 o a O P x R q S T
def mi {k d:Nat} {F:TF} (g:HZ X.prog X.w X.K X.mg X.base n k F) (i:wm d X.A) (j:CS (Br X.prog X.w X.K) X E) (l:Gl X n) (hk:k+1≤d:=by decide)
 (b:(n==("__debug__":Str))=false:=by decide):Ev X E (.Call (.Name n p) [] [] pos) (EW n F Af):=by
 obtain ⟨C,f,y,A,e,M,G,o⟩:=g.ex;intro a s q H Q I z;have r:X.mg n=some (.ref C):=mg_of I.mod.kin I.mod.glob e;refine dF (E:=E) M G (i.mono hk) l r o .nil j (hdb:=b) a s q H Q I ?_;obtain ⟨m,B,h,c,J,p⟩:=z;intro x t u v w;exact W1 e c .nil p x t u v w
end
structure TbOk (K:Frag) (h:Heap) (t:Str×Addr×Addr):Prop where
 tp:tabP K t.1=some (t.2.1,t.2.2)
 hd:codeHdIn K t.2.1 t.2.2=true
 at_:h.get? t.2.2=some (tabObj #[])
 no:K.lookup t.2.2=none
def mj {K:Frag} {I mb:Str→Option Value} {k:Nat} {fa a:Addr} {x:Str} {F:TF} {c:Shared} {S:List Value} {U:List Int} {J:List (Str×Addr×Addr)} 
 (KX:K.In c.heap) (Y:c.heap.Ns mainGlobals I) (f:c.heap.Ns builtinsNs mb) (hbb:∀x:Str,x≠"__name__"→mb x=bootBuiltins x) (Z:c.heap.NoLimit) (hg:c.gens=#[]) (hbm:KL I c.heap)
 (W:c.heap.get? a=some {cls:=.type "list",data:=.seq S.toArray}) (hi:IntsAre S U) (hl:U.length≤sizeLine) (hr:wm k callerA)
 (ht:∀t∈J,TbOk K c.heap t) (nd:(J.map (·.2.2)).Nodup)
 (FF:∀y:Heap,K.In y→y.Ns mainGlobals I→KL I y→wz P w K I y (Br P w K) k fa fd [x] (spE K F)) (O:∀(s:Shared) (u:Value),BindsTo s fd ⟨[u],[]⟩ [(x,u)])
 (hF:∃h',F [.scr U] (J.map fun t=>.tabn t.1)=.ok (.bl true) h'):
 codeAny (model P w) callerA (.call (.ref fa) ⟨[.ref a],[]⟩) (fun r C=>r=.ok (.ret (.bool true))∧OldK c.heap C.heap∧C.os=c.os∧AllBare C.gens) c:=by
 have rv:=L2.wN hi;have lenV:=hi.length;obtain ⟨T,A⟩:∃T,T=J.map (·.2.2):=⟨_,rfl⟩
 rw [←A] at nd;have inT:∀b,b∈T→∃t∈J,b=t.2.2∧TbOk K c.heap t:=fun b f=>by rw [A] at f;obtain ⟨t,X,rfl⟩:=qaO.mp f;exact ⟨t,X,rfl,ht t X⟩
 have atT:∀b,b∈T→c.heap.get? b=some (tabObj #[])∧K.lookup b=none:=fun b f=>by obtain ⟨t,_,rfl,q⟩:=inT b f;exact ⟨q.at_,q.no⟩
 have aT:a∉T:=fun z=>by have:=(atT a z).1;rw [this] at W;cases W
 have L:∀H:Hp,(∀b,b∈T∨H b=none∨∃o xs,H b=some (.frz o (.lst xs)))→(∀b∈T,H b=some (.tbl #[]))→FzL K H a (U.map V.int)→HOk P w H c.heap→(∀b,H b≠none→b=a∨b∈T)→(H a≠none→K.lookup a=none)→
  codeAny (model P w) callerA (.call (.ref fa) ⟨[.ref a],[]⟩) (fun r C=>r=.ok (.ret (.bool true))∧OldK c.heap C.heap∧C.os=c.os∧AllBare C.gens) c:=by
  intro H hO hHT hS hok hA hK;have g:∀{b:Addr} {o:Obj},c.heap.get? b=some o→H b=none→(E7 c.heap H).get? b=some o:=fun e n=>aO e n;have noA:∀{b:Addr} {o:Obj},c.heap.get? b=some o→(∀its n,o.data≠.seq its n)→(∀ws,o.data≠.fields ws)→H b=none:=fun {b o} e d1 d2=>by
   cases q:H b with
   |none=>rfl
   |some u=>
    rcases hA b (by rw [q];simp) with Q |Q
    ·subst Q;rw [W] at e;cases e;exact absurd rfl (d1 _ _)
    ·rw [(atT b Q).1] at e;cases e;exact absurd rfl (d2 _)
  have E:∀{b:Addr} {m:Str→Option Value},c.heap.Ns b m→(E7 c.heap H).Ns b m:=fun {b m} ⟨o,es,ep,e,d,r⟩=>⟨o,es,ep,g e (noA e (fun _ _ z=>by rw [d] at z;cases z) (fun _ z=>by rw [d] at z;cases z)),d,r⟩
  have hKb:K.In (E7 c.heap H):=fun b o e=>g (KX b o e) (by
   cases q:H b with
   |none=>rfl
   |some u=>
    rcases hA b (by rw [q];simp) with Q |Q
    ·subst Q;rw [hK (by rw [q];simp)] at e;cases e
    ·rw [(atT b Q).2] at e;cases e)
  have hM:Mod K I (E7 c.heap H):=⟨hKb,E Y,⟨mb,E f,hbb⟩,let ⟨mc,X,h2⟩:=Z;⟨mc,E X,h2⟩⟩
  have e0:Env0 P w K I (E7 c.heap H) callerA [] c H:=⟨rfl,hM,fun b o e=>aP e,IR (aN _ _),trivial,fun b f=>absurd (show b∈([]:List Addr) from f) (by simp),hok,.of_eq hg⟩
  have hBM:KL I (E7 c.heap H):=by obtain ⟨bm,o,X,h2,h3,h4,h5,h6⟩:=hbm;exact ⟨bm,o,X,h2,g h3 (noA h3 (fun _ _ z=>by rw [h6] at z;cases z) (fun _ z=>by rw [h6] at z;cases z)),h4,h5,h6⟩
  have hsp:spE K F [.ref a] H (fun v _=>v=.bl true) fun _ _ _=>False:=by
   obtain ⟨h',e⟩:=hF;refine ⟨T,[.scr U],J.map fun t=>.tabn t.1,⟨by rw [A,Ci,Ci],nd,fun l cc b M e2=>?_⟩,.cons (by simp only [DV];exact ⟨a,rfl,hS⟩) .nil,?_⟩
   ·rw [Cg] at M;rw [A,Cg] at e2;cases q:J[l]? with
    |none=>rw [q] at M;cases M
    |some t=>rw [q] at M e2;cases M;cases e2;have hm:t∈J:=FM q;exact ⟨⟨t.2.1,(ht t hm).tp⟩,#[],hHT _ (by rw [A];exact qaO.mpr ⟨t,hm,rfl⟩),trivial,fun pos cv z=>by simp [codeAmong] at z⟩
   ·rw [e];intro v m' H' _ _ _ r;simpa [rD,DV] using r
  refine codeAny_mono ((FF _ hKb (E Y) hBM).run callerA [] c H ⟨[.ref a],[]⟩ [.ref a] [.ref a] _ _ hr e0 (O c (.ref a)) (.cons rfl .nil) hsp) fun r C h=>?_;cases r with
  |error e=>obtain ⟨_,_,_,_,_,_,_,_,_,_,_,_,q⟩:=h;exact q.elim
  |ok fl=>
   cases fl with
   |next=>exact False.elim h
   |brk=>exact False.elim h
   |cont=>exact False.elim h
   |ret u=>
    obtain ⟨v,H',os,bare,un,N,r',q⟩:=h;have q':v=.bl true:=q;subst q';obtain rfl:u=Value.bool true:=r';have B:∀b o,b∉T→c.heap.get? b=some o→C.heap.get? b=some o:=fun b o p e=>by
     cases q:H b with
     |none=>exact un.keep b o e q (by intro z;exact absurd (show b∈([]:List Addr) from z) (by simp)) (by simp)
     |some u=>
      rcases hO b with z |z |⟨ob,xs,z⟩
      ·exact absurd z p
      ·rw [q] at z;cases z
      ·have z2:=un.frzs b ob _ z;obtain ⟨M,_⟩:=hok b _ z;obtain ⟨e2,_⟩:=N b _ z2;rw [e] at M;cases M;exact e2
    have T2:∀b,b∈T→∃i,C.heap.get? b=some (tabObj (#[]++i)):=fun b f=>by obtain ⟨i,hT'⟩:=un.tbls b _ (hHT b f);exact ⟨i,N b _ hT'⟩
    refine ⟨rfl,⟨fun b o e=>?_,fun b o e=>?_⟩,os,bare⟩
    ·by_cases p:b∈T
     ·obtain ⟨i,R⟩:=T2 b p;obtain ⟨t,_,rfl,q⟩:=inT b p;rw [q.at_] at e;cases e;exact .inr (.inl ⟨((codeHd_of_K KX q.hd).tab q.at_).isCodeTable,rfl,#[],i,rfl,R⟩)
     ·exact .inl (B b o p e)
    ·by_cases p:b∈T
     ·obtain ⟨i,R⟩:=T2 b p;exact ⟨_,R⟩
     ·exact ⟨o,B b o p e⟩
 cases hk:K.lookup a with
 |some o=>
  have e:=KX a o hk;rw [W] at e;cases e;refine L (fun b=>if b∈T then some (.tbl #[]) else none) (fun b=>?_) (fun b f=>if_pos f) (.inr (.inr ⟨_,S.toArray,_,hk,rfl,rfl,rfl,by rw [Bh,lenV];exact hl,by simpa using rv⟩)) (fun b u z=>?_) (fun b z=>?_) fun z=>absurd (if_neg aT) z
  ·by_cases f:b∈T
   ·exact .inl f
   ·exact .inr (.inl (if_neg f))
  ·by_cases f:b∈T
   ·have G:=(if_pos f).symm.trans z;cases G;exact (atT b f).1
   ·have G:=(if_neg f).symm.trans z;cases G
  ·by_cases f:b∈T
   ·exact .inr f
   ·exact absurd (if_neg f) z
 |none=>
  refine L (fun b=>if b∈T then some (.tbl #[]) else if b=a then some (.frz {cls:=.type "list",data:=.seq S.toArray} (.lst (U.map V.int))) else none) (fun b=>?_) (fun b f=>if_pos f) (.inl ⟨{cls:=.type "list",data:=.seq S.toArray},(if_neg aT).trans (if_pos rfl)⟩) (fun b u z=>?_) (fun b z=>?_) fun _=>hk
  ·by_cases f:b∈T
   ·exact .inl f
   ·by_cases j:b=a
    ·exact .inr (.inr ⟨_,_,(if_neg f).trans (if_pos j)⟩)
    ·exact .inr (.inl ((if_neg f).trans (if_neg j)))
  ·by_cases f:b∈T
   ·have G:=(if_pos f).symm.trans z;cases G;exact (atT b f).1
   ·have z1:=(if_neg f).symm.trans z
    by_cases j:b=a
    ·have G:=(if_pos j).symm.trans z1;cases G;subst j;exact ⟨W,by rw [Ci];exact hl,S,_,rv,W⟩
    ·have G:=(if_neg j).symm.trans z1;cases G
  ·by_cases f:b∈T
   ·exact .inr f
   ·by_cases j:b=a
    ·exact .inl j
    ·exact absurd ((if_neg f).trans (if_neg j)) z
end LS
namespace Tp
open PySem PySem.W PySem.Spec PySem.Calls PyProof.Rows
inductive SeenM (K:Frag) (n m:Str) (st:Stmt):Prop where
 |mk (C f:Addr) (od an:Option Addr) (sl:Array (Option Value)) (oc kV dc pm cd ct:Value) (a:nsIn K mainGlobals n=some (some (.ref C))) (b:findIn K (.ref C) m=some (some (.ref f)))
  (l:K.lookup f=some ⟨oc,od,.func (fnOf m (n++(".":Str)++m) (L2.wq st) (L2.wh st) (L2.wb st) .none kV dc pm an cd ct),sl⟩) (c:codeIn K cd (n++(".":Str)++m)=true) (fn:isFn K (.ref f)=true) (k:keepIn K (.ref f)=true):SeenM K n m st
def ml {K:Frag} {n m:Str} {st:Stmt} (e:Ov K n m=some (Ou n m st,true,true,true)):SeenM K n m st:=by
 unfold Ov at e;split at e
 ·rename_i C t;split at e
  ·rename_i f u;split at e
   ·rename_i v w y z A;obtain ⟨a,B⟩:=Prod.mk.inj (Option.some.inj e);obtain ⟨E,b⟩:=Prod.mk.inj B;obtain ⟨b,F⟩:=Prod.mk.inj b;obtain ⟨j,k,l,o,p,q,r,s,G,c,d,g,h,i,x⟩:=y;replace a:FuncData.mk j k l o p q r s .none .none .none none .none .none x=Ou n m st:=a;injection a with O P Q R S T U W X H I J L M N
    subst j k l o p q r s x;exact ⟨C,f,w,g,z,v,G,c,d,h,i,t,u,A,E,b,F⟩
   ·cases e
  ·cases e
 ·cases e
inductive SeenC (K:Frag) (n:Str) (fs:List Str):Prop where
 |mk (C:Addr) (a:nsIn K mainGlobals n=some (some (.ref C))) (c:L2.Cls K C) (m:makesIn K C=true) (k:keepIn K (.ref C)=true) (f:∀f∈fs,L2.wO K C f):SeenC K n fs
def mm {K:Frag} {fs:List Str} (e:Ow K n fs=true):SeenC K n fs:=by
 unfold Ow at e;split at e
 ·rename_i C b;simp only [CP] at e;obtain ⟨⟨⟨⟨⟨⟨c,d⟩,g⟩,a⟩,i⟩,j⟩,k⟩:=e;refine ⟨C,b,⟨c,d,g,?_⟩,i,j,fun f l=>?_⟩
  ·split at a
   ·rename_i id h;rw [h,beq_iff_eq.mp a]
   ·cases a
  ·have:=qaT.mp k f l;unfold Sh at this;split at this
   ·assumption
   ·cases this
 ·cases e
def tbsOf (K:Frag) (a:List Str):List (Str×Addr×Addr):=a.map fun g=>(g,Gi K g)
def W2:∀{l:List Addr},Oy l=true→l.Nodup
 |[],_=>List.nodup_nil
 |a::l,h=>by obtain ⟨b,c⟩:=qbJ.mp h;refine qbH.mpr ⟨fun z=>?_,W2 c⟩;have:l.contains a=true:=List.contains_iff_mem.mpr z;rw [this] at b;cases b
structure w8 (W:wV) (K:Frag):Prop where
 fs:∀(i:Nat) n st,W.w.fs[i]?=some (n,st)→wW K n st
 cs:∀(i:Nat) n v,W.w.cs[i]?=some (n,v)→∃t,nsIn K mainGlobals n=some (some (.int v t))
 bs:∀(i:Nat) n,W.w.bs[i]?=some n→nsIn K mainGlobals n=some none
 et:LS.wU K=true
 ms:∀(i:Nat) n m st,W.ms[i]?=some (n,m,st)→SeenM K n m st
 cl:∀(i:Nat) n fs,W.cl[i]?=some (n,fs)→SeenC K n fs
 tb:∀(i:Nat) g,W.gs[i]?=some g→LS.tabP K g=some (Gi K g)∧codeHdIn K (Gi K g).1 (Gi K g).2=true
 ss:LD K W.ss=true
 ts:∀(i:Nat) n rs,W.ts[i]?=some (n,rs)→LS.brdIn K n rs=true
def SaysZ (W:wV) (_:World) (h:Heap):Prop:=∃K:Frag,K.In h∧w8 W K∧(∀t∈tbsOf K W.gs,LS.TbOk K h t)∧((tbsOf K W.gs).map (·.2.2)).Nodup
def SaysZ.keeps {W:wV} (w:World) (h a:Heap) (x:SaysZ W w h) (k:∀b o,h.get? b=some o→a.get? b=some o):SaysZ W w a:=by obtain ⟨K,c,d,e,f⟩:=x;exact ⟨K,c.keeps k,d,fun t g=>let q:=e t g;⟨q.tp,q.hd,k _ _ q.at_,q.no⟩,f⟩
def W3 {K:Frag} {g:Str} (e:Ox K h g=some (some (tabObj #[]),true,true)):LS.TbOk K h (g,Gi K g):=by
 unfold Ox at e;split at e
 ·rename_i c T b;obtain ⟨d,a⟩:=Prod.mk.inj (Option.some.inj e);obtain ⟨a,f⟩:=Prod.mk.inj a;have:Gi K g=(c,T):=by unfold Gi;rw [b];rfl
  refine ⟨?_,?_,?_,?_⟩
  ·rw [this];exact b
  ·rw [this];exact a
  ·rw [this];exact d
  ·rw [this];exact Option.isNone_iff_eq_none.mp f
 ·cases e
def saysZ_of {W:wV} (w:World) (s:Shared) (e:obsZ W s=valZ W):SaysZ W w s.heap:=by
 unfold obsZ valZ at e;rw [Kd] at e;obtain ⟨a,e⟩:=Prod.mk.inj e;obtain ⟨d,a⟩:=Prod.mk.inj a;obtain ⟨f,a⟩:=Prod.mk.inj a;obtain ⟨j,k⟩:=Prod.mk.inj a;obtain ⟨l,e⟩:=Prod.mk.inj e;obtain ⟨o,e⟩:=Prod.mk.inj e;obtain ⟨b,e⟩:=Prod.mk.inj e;obtain ⟨p,c⟩:=Prod.mk.inj e;refine ⟨_,kS _,⟨fun i n st h=>kT (HW d h),fun i n v h=>kU (HW f h),fun i n h=>HW j h,k,fun i n m st h=>ml (HW (x:=(n,m,st)) l h),fun i n fs h=>mm (HW (x:=(n,fs)) o h),fun i g h=>?_,(qbJ.mp c).1,fun i n r h=>?_⟩,fun t u=>?_,?_⟩
 ·have q:=W3 (HW b h);exact ⟨q.tp,q.hd⟩
 ·have:=qaT.mp (qbJ.mp c).2 (n,r) (FM h);exact this
 ·obtain ⟨g,y,rfl⟩:=qaO.mp u;obtain ⟨i,z,rfl⟩:=IH y;exact W3 (HW b (Bl z))
 ·have:=W2 p;unfold tbsOf;rw [BQ];exact this
end Tp
namespace LS
open PySem PySem.W PySem.Spec PySem.Calls PyProof.Rows L2
def walk_hdZ {l:OpenLaw} {n k:Nat} {j:List Str} {X:(Str→Option Value)→Heap→Prop} {W:Tp.wV} {d:DefRec} {x:Str} {F:TF} 
 (P:l.most=some n) (B:n≤sizeLine) (C:d.params.defaults=[]) (Q:wm k callerA)
 (R:∀(w:World) (K:Frag) (m:Str→Option Value) (A:Addr) (h:Heap),Tp.w8 W K→K.In h→h.Ns mainGlobals m→m d.name=some (.ref A)→
  ∃E:FuncData,(∀(s:Shared) (u:Value),BindsTo s E ⟨[u],[]⟩ [(x,u)])∧
   ∀b:Heap,K.In b→b.Ns mainGlobals m→KL m b→wz l.prog w K m b (Br l.prog w K) k A E [x] (spE K F))
 (S:∀v:List Int,v.length≤n→(∀i∈v,Builtin.Int.intBits i≤2^20)→∃T,F [.scr v] (W.gs.map fun g=>.tabn g)=.ok (.bl true) T):
 WalkO q j X (Tp.SaysZ W) l.row.toRowW d [] (fun f J=>PySem.call f J):=by
 refine Att.attach_bits P C fun w L M m mb A o pm cd U a J v p G Y ho hd N H y r c Z=>?_;obtain ⟨K,O,HS,h3,h4⟩:=Y;obtain ⟨E,hb,I⟩:=R w K m A _ HS O G.T.g H;obtain ⟨bm,ob,b1,b2,b3,b4,b5,b6⟩:=G.T.bmain;have z:=S v c p;have e:(W.gs.map fun g=>Cell.tabn g)=((Tp.tbsOf K W.gs).map fun t=>Cell.tabn t.1):=by unfold Tp.tbsOf;rw [BQ];rfl
 rw [e] at z;exact mj O G.T.g G.T.b G.T.builtins G.T.nolimit Z ⟨bm,ob,b1,b2,b3,b4,b5,b6⟩ y r (BJ c B) Q h3 h4 I hb z
section
variable {P:Program} {w:World} {K:Frag} {mg:Str→Option Value} {base h:Heap} {n m:Str} {st:Stmt} {N ps:List Str} {k:Nat} {g:MS}
def mq {x:List Str} (S:Tp.SeenM K n m st) (y:Tp.SeenC K n x)
 (b:N.Nodup→∀(f:Addr) (d:Value) (A:Around) (o:List Env) (s:Shared) (H:Hp) (E:XK),wm k (A.deeper (envOfC (n++(".":Str)++m) (wb st) s.heap.objs.size f d))→Df (CT (Br P w K) P w K mg base N (n++(".":Str)++m) (wb st) f d A o s H E) E (wh st) g)
 (z:∀(kV i p:Value) (j:Option Addr) (d q:Value) (u:List Value),u.length=ps.length→bindArgs (fnOf m (n++(".":Str)++m) (wq st) (wh st) (wb st) .none kV i p j d q) ⟨u,[]⟩=pure (ps.zip u):=by intro _ _ _ _ _ _ u B;rcases u with _ |⟨_,_ |⟨_,_ |⟨_,_ |⟨_,_⟩⟩⟩⟩<;>first |rfl |exact absurd B (by simp)) (r:Fd N ps (wb st):=by exact ⟨rfl,rfl,rfl,by decide +kernel,rfl,by decide +kernel,by decide +kernel⟩):GP P w K mg base n m (k+1) (Aw ps.length N.length g):=by
 obtain ⟨C,f,O,j,Q,R,kV,T,p,U,q,a,G,l,c,I,t⟩:=S;obtain ⟨W,v,J,_,_,_⟩:=y;rw [a] at v;cases v;have F:=IX l c t;exact ⟨C,f,_,ps,a,J,⟨G,I,t⟩,Mu F r (fun L h e=>if_neg e) (fun L h e=>if_pos e) (fun d A o s H E M=>b r.nd f d A o s H E M),F.binds z⟩
def mr {v:List Str} (S:Tp.SeenM K n "__init__" st) (x:Tp.SeenC K n v)
 (b:N.Nodup→∀(f:Addr) (d:Value) (A:Around) (o:List Env) (s:Shared) (H:Hp) (E:XK),wm k (A.deeper (envOfC (n++(".":Str)++"__init__") (wb st) s.heap.objs.size f d))→Df (CT (Br P w K) P w K mg base N (n++(".":Str)++"__init__") (wb st) f d A o s H E) E (wh st) g)
 (y:∀(kV i p:Value) (j:Option Addr) (d q:Value) (u:List Value),u.length=ps.length→bindArgs (fnOf "__init__" (n++(".":Str)++"__init__") (wq st) (wh st) (wb st) .none kV i p j d q) ⟨u,[]⟩=pure (ps.zip u):=by intro _ _ _ _ _ _ u z;rcases u with _ |⟨_,_ |⟨_,_ |⟨_,_ |⟨_,_⟩⟩⟩⟩<;>first |rfl |exact absurd z (by simp)) (r:Fd N ps (wb st):=by exact ⟨rfl,rfl,rfl,by decide +kernel,rfl,by decide +kernel,by decide +kernel⟩):HZ P w K mg base n (k+1) (Aw ps.length N.length g):=by
 obtain ⟨C,f,Q,j,R,T,kV,U,p,W,q,a,B,l,c,G,I⟩:=S;obtain ⟨X,t,Y,J,L,_⟩:=x;rw [a] at t;cases t;have F:=IX l c I;exact ⟨C,f,_,ps,a,⟨J,B,G,L⟩,Mu F r (fun M h e=>if_neg e) (fun M h e=>if_pos e) (fun d A o s H E O=>b r.nd f d A o s H E O),F.binds y⟩
def MW {b:List Str} (S:Tp.SeenC K n b):KR K n b:=by obtain ⟨C,a,c,_,_,f⟩:=S;exact ⟨C,a,c,f⟩
end
section
variable {prog:Program} {w:World} {A:Around} {E:Value→Shared→Prop} {s:Shared}
def W4 {a:Array Value} (k:t≠j):∀(n i:Nat) (s:Shared) (Q:List Value→Shared→Prop),s.heap.IsListIter j t i→s.heap.IsList t a→i+n≤a.size→
 (∀q,q.IsListIter j t (i+n)→Heap.SameBut j s.heap q→Q ((a.toList.drop i).take n) {s with heap:=q})→wpAny (model prog w) A (draw (.ref j) n) Q E s
 |0,i,s,Q,d,_,_,u=>by
  show wpAny _ _ (pure []) Q E s
  exact AD (by simpa using u s.heap d (Heap.SameBut.refl ..))
 |n+1,i,s,Q,d,v,y,u=>by
  have l:i<a.size:=by omega
  show wpAny _ _ (pyNext (.ref j) >>=_) Q E s
  refine Aj (wpAny_pyNext_list_item d v (x:=a[i]) (by simp [l]) fun m b h=>?_);have f:m.IsList t a:=by obtain ⟨o,e,r⟩:=v;exact ⟨o,(h.2 t k).trans e,r⟩
  refine Aj (DN (W4 k n (i+1) _ _ b f (by omega) fun p c g=>AD ?_));have z:a.toList.drop i=a[i]::a.toList.drop (i+1):=by simp [G3,l]
  have:=u p (by rw [show i+(n+1)=i+1+n by omega];exact c) (h.trans g);rw [z,List.take_succ_cons] at this;exact this
def mu {i:Array Value} {Q:List Value→Shared→Prop} (p:A.handled=none) (l:s.heap.IsList t i)
 (q:∀m,Heap.ExtBut s.heap.objs.size s.heap m→Q i.toList {s with heap:=m}):wpAny (model prog w) A (unpackItems (.ref t) i.size none) Q E s:=by
 have f:t≠s.heap.objs.size:=by obtain ⟨o,v,_⟩:=l;exact BX (AY v)
 have push:∀o,(s.heap.push o).IsList t i:=fun o=>by obtain ⟨u,e,r⟩:=l;exact ⟨u,AW _ e,r⟩
 unfold unpackItems;refine Aj ?_
 ·unfold notIterableAtAll;refine Aj (wpAny_specialOf l.typeIs slot_list_iter.lookup ?_);refine AD ?_;simp only [Cz,if_false];refine Aj (DN (wpAny_pyIter_list l ?_));refine Aj (DN (W4 f i.size 0 _ _ ⟨_,Bx _ rfl,rfl,rfl⟩ (push _) (by omega) fun g a h=>?_));have j:List.take i.size (List.drop 0 i.toList)=i.toList:=by rw [Lw];exact J5 (by simp)
  rw [j];rw [if_neg (by simp)];have c:g.IsList t i:=by obtain ⟨o,e,r⟩:=push {cls:=.type "list_iterator",data:=.fields #[.ref t,.int 0 0]};exact ⟨o,(h.2 t f).trans e,r⟩
  refine Aj (DN (wpAny_pyNext_list_end p a c (by simp) fun k d=>?_));simp only [Option.isSome_none,Cz,if_false];refine AD (q k fun b o n e=>d b o n (h.extBut b o n (AW _ e)))
def mv {x} {i:Array Value} (d:A.handled=none) (f:s.heap.IsList t i)
 (g:(assignEach e a).length=i.size) (b:(assignEach e a).findIdx? (·.1)=none)
 (h:∀c,Heap.ExtBut s.heap.objs.size s.heap c→wpAny (model prog w) A (assignInOrder ((assignEach e a).map (·.2)) i.toList) Q E {s with heap:=c}):
 wpAny (model prog w) A (assign (.Tuple e x pos) a (.ref t)) Q E s:=by
 rw [assign_Tuple];refine Aj (wpAny_standAt ?_);unfold unpack;rw [g,b];exact Aj (DN (mu d f h))
end
section
variable {X:Cx} {E:XK}
def W5 (K:Frag) (n:Nat) (t:E8):TG:=fun v b H Q=>∃a x,v=.ref a∧SqL K H a x∧x.length=n∧t x b H Q
def mw {k:Nat} {t:E8} {n:Nat} (j:X.calm=true) (h:Kf X c t)
 (l:(assignEach c X.env).length=n:=by rfl) (d:(assignEach c X.env).findIdx? (·.1)=none:=by rfl):PG X (.Tuple c k pos) (W5 X.K n t):=by
 intro p s g H v u Q I r f;obtain ⟨a,x,m,q,w,f⟩:=f;subst m;cases r;obtain ⟨y,i,z,F⟩:=I.list q;refine mv (I.ok.hd j) z.isList (by simp [l,←w,i.length]) d fun A B=>?_;have C:Inv X p g H {s with heap:=A}:=I.kept (t':=s.toks) fun b o e=>B b o (BX (AY e)) e;exact h p _ g H x _ Q C (by simpa using i) f
noncomputable def KS (i j:Nat) (d:D) (a:Ag) (h:HD):Out (Fl×Ag):=match d with
 |.loc l=>(match h[l]? with
  |some (.lst [x,y])=>.ok (.nx,(a.set i (some x)).set j (some y)) h
  |_=>.stuck)
 |_=>.stuck
def MX (i j:Nat) (f:ME):MS:=fun a h=>(f a h).bind fun d b=>KS i j d a b
def mx {i j:Nat} {x y:Str} {c py pos t:Pos} {k:Nat} (u:Ev X E e f) (w:PG X (.Tuple [.Name x c,.Name y py] k t) (W5 X.K 2 (DG (CH i) (DG (CH j) Gk))))
 (A:swapsWithSole [.Tuple [.Name x c,.Name y py] k t] e pos.line X.env=pure false:=by rfl) (B:swappedStores [.Tuple [.Name x c,.Name y py] k t] e X.env=pure none:=by rfl)
 (n:(assignEach [.Tuple [.Name x c,.Name y py] k t] X.env).map (·.2)=[assign (.Tuple [.Name x c,.Name y py] k t) X.env]:=by rfl):Ex X E (.Assign [.Tuple [.Name x c,.Name y py] k t] e pos) (MX i j f):=
 DO (OD u w A B n) fun Dn S H z=>by
  obtain ⟨m,C,h,F,o,p⟩:=z;refine ⟨m,C,h,F,o,wg.bind p fun d n v T U G I J g r q=>?_⟩;clear G;unfold KS at q;split at q
  ·rename_i l;split at q
   ·rename_i a b L;simp only [rD,DV] at r;obtain ⟨p,rfl,M⟩:=r;obtain ⟨W,N,s⟩:=g.cells l _ p L M;simp only [DVs] at s;obtain ⟨O,Y,rfl,P,Q,Z,rfl,R,rfl⟩:=s;exact ⟨p,_,rfl,SqL.of N,rfl,O,_,rfl,Q,_,rfl,rfl,(q.here g) _ (((o.keep I J).set P).set R)⟩
   ·exact q.elim
  ·exact q.elim
end
section
variable {n mn f:Str} {g fo fv:ME} {fa:MA} {F:TF} {ρ:Ag} {h:HD} {Q:D→HD→Prop} {QS:Fl×Ag→HD→Prop} {R:Str→List (Str×D)→HD→Prop} {i j:Nat}
@[simp] theorem v3:Wp (BN n g f ρ h) Q=Wp (g ρ h) fun x a=>Wp (D0 n f x a) Q:=by unfold BN;rw [AL]
@[simp] theorem KU:We (BN n g f ρ h) Q R=We (g ρ h) (fun x a=>We (D0 n f x a) Q R) R:=by unfold BN;rw [Dp]
@[simp] theorem my:Wp (F7 n fo f fv ρ h) QS=Wp (fv ρ h) fun y a=>Wp (fo ρ a) fun x b=>Wp (Es n f x y ρ b) QS:=by unfold F7;simp only [AL]
@[simp] theorem v5:Wp (B5 n mn F fo fa ρ h) Q=Wp (fo ρ h) fun x a=>Wp (Eu n mn x a) fun x b=>Wp (fa ρ b) fun c d=>Wp (F (x::c) d) Q:=by unfold B5;simp only [AL]
@[simp] theorem JG:We (B5 n mn F fo fa ρ h) Q R=We (fo ρ h) (fun x a=>We (Eu n mn x a) (fun x b=>We (fa ρ b) (fun c d=>We (F (x::c) d) Q R) R) R) R:=by unfold B5;simp only [Dp]
def Qe (l:Nat) (v:D) (h:HD):Out D:=match v with
 |.non=>.ok (.loc l) h
 |_=>.stuck
@[simp] theorem W6 {l:Nat}:Qe l .non h=.ok (.loc l) h:=rfl
@[simp] theorem W7:Wp (EW n F fa ρ h) Q=Wp (fa ρ h) fun x a=>Wp (F (.loc a.length::x) (a++[.ins n []])) fun v b=>Wp (Qe a.length v b) Q:=by unfold EW;simp only [AL];rfl
@[simp] theorem v7:Wp (MX i j g ρ h) QS=Wp (g ρ h) fun d a=>Wp (KS i j d ρ a) QS:=by unfold MX;rw [AL]
def mz {l:Nat} {x y:D} (e:h[l]?=some (.lst [x,y])):KS i j (.loc l) ρ h=.ok (.nx,(ρ.set i (some x)).set j (some y)) h:=by unfold KS;simp only [e]
end
section
variable {X:Cx} {E:XK} {e:Expr} {f:ME}
def H0:D→D→HD→Out D:=fun x y h=>match x,y with
 |.str i,.str j=>.ok (.bl (!(Builtin.Str.occurrences j i 0 j.length 1).isEmpty)) h
 |_,_=>.stuck
def mB:BC X (compareOp .In) H0:=by
 refine ⟨_,cE,fun m H h E x y v u Q b r a q=>?_⟩;unfold H0 at q;split at q
 ·simp only [DV] at r a;subst r a;exact ⟨_,_,rfl,rfl,Bb b q (by simp [DV])⟩
 ·exact q.elim
def JH:D→HD→Out D:=fun d h=>match d with
 |.str z=>if z.length≤sizeLine then .ok (.int z.length) h else .stuck
 |_=>.stuck
def mD:C1 X (.builtin "len") (Ai JH):=by
 refine ⟨_,eK,fun m H h E i j Q b r q=>Fi r q fun d v c a q=>?_⟩;unfold JH at q;split at q
 ·simp only [DV] at a;subst a;split at q
  ·rename_i g;exact ⟨_,c,g,Bb b q (by simp [DV])⟩
  ·exact q.elim
 ·exact q.elim
def mE:De X (.type "int") (fun a H Q=>∃x n,a=[.str x]∧x.length≤640∧PySem.intText? x=some n∧Q (.int n) H):=by intro p s g H a i Q I r h;obtain ⟨x,n,rfl,b,c,q⟩:=h;obtain ⟨u,rfl,d⟩:=Ec r;obtain ⟨t,rfl⟩:=d;exact KIN.call_text c b ⟨.int n,H,I.tok _,⟨_,rfl⟩,q⟩
def JI:D→HD→Out D:=fun d h=>match d with
 |.str x=>if x.length≤640 then (match PySem.intText? x with
  |some n=>.ok (.int n) h
  |none=>.stuck) else .stuck
 |_=>.stuck
def mF:C1 X (.type "int") (Ai JI):=by
 refine ⟨_,mE,fun m H h E j k Q b r q=>Fi r q fun d v c a q=>?_⟩;unfold JI at q;split at q
 ·simp only [DV] at a;subst a;split at q
  ·rename_i g;split at q
   ·rename_i n i;exact ⟨_,n,c,g,i,Bb b q (by simp [DV])⟩
   ·exact q.elim
  ·exact q.elim
 ·exact q.elim
end
section
variable {X:Cx} {E:XK}
def KV (x:D) (lo a:Option Int) (h:HD):Out D:=match x with
 |.loc l=>(match h[l]? with
  |some (.lst d)=>BG (cutD d lo a) h
  |_=>.stuck)
 |_=>.stuck
def KW (f:ME) (lo b:MO):ME:=fun a h=>(f a h).bind fun x c=>(lo a c).bind fun l d=>(b a d).bind fun u e=>KV x l u e
def mG {lo s:Option Expr} {t w:MO} (F:Ev X E e f) (G:Jo X E lo t) (I:Jo X E s w):Ev X E (.Subscript e (.Slice lo s none c) pos) (KW f t w):=
 BR (UL eF F G I) fun σ H Q z=>by obtain ⟨m,d,h,J,g,p⟩:=z;exact (⟨m,d,h,J,g,wa.bind p fun x L v M H1 i y A j N O=>
  ⟨M,d,L,j,g.keep y A,wa.bind O fun l P l' R H2 k c B o S T=>
    ⟨R,d,P,o,(g.keep y A).keep c B,wa.bind T fun u h3 u' m3 H3 r U W b Y q=>by
      clear i k r;subst S Y;have C:=DV.keep U W (DV.keep c B N);unfold KV at q;split at q
      ·rename_i n;split at q
       ·rename_i ds Z;simp only [DV] at C;obtain ⟨a,rfl,ha⟩:=C;obtain ⟨vs,hv,dv⟩:=b.cells n _ a Z ha;exact ⟨a,vs,rfl,SqL.of hv,(Gu b (dv.cut l u) q).2⟩
       ·exact q.elim
      ·exact q.elim⟩⟩⟩)
end
def Qf:List Str→List V→List (Value×Value)→Prop
 |[],[],[]=>True
 |k::c,v::d,(a,b)::w=>(∃t,a=.str k t)∧RelV v b∧Qf c d w
 |_,_,_=>False
def W8:∀{a:List Str} {us:List Value} {acc:List (Str×Value)},a.Nodup→(∀k∈a,∀p∈acc,p.1≠k)→merged acc (a.zip us)=acc++a.zip us
 |[],_,acc,_,_=>by simp [merged]
 |_::_,[],acc,_,_=>by simp [merged]
 |k::a,u::us,acc,n,b=>by
  rw [qbH] at n;have e:stored acc k u=acc++[(k,u)]:=by unfold stored;rw [if_neg];intro z;rw [List.any_eq_true] at z;obtain ⟨p,h,e⟩:=z;exact b k (by simp) p h (of_decide_eq_true e)
  have:=W8 (us:=us) (acc:=acc++[(k,u)]) n.2 (fun j c p h=>by
   rcases qb1.mp h with h |h
   ·exact b j (by simp [c]) p h
   ·rw [qaG.mp h];rintro rfl;exact n.1 c)
  unfold merged at this ⊢;rw [Lk,Kb,e,this];simp
def W9:∀{c:List Str} {d:List V} {e:List (Value×Value)},Qf c d e→∃us,Vals d us∧c.length=us.length∧Carries (PySem.strKind P w) e (c.zip us)
 |[],[],[],_=>⟨[],.nil,rfl,trivial⟩
 |k::c,v::d,(a,b)::e,h=>by
  obtain ⟨⟨t,rfl⟩,f,g⟩:=h;obtain ⟨us,q,i,j⟩:=W9 (P:=P) (w:=w) g;refine ⟨b::us,.cons f q,by simp [i],?_,rfl,j⟩
  show Value.isStrOf k (.str k t)=true
  unfold Value.isStrOf;simp
 |[],[],_::_,h=>h.elim
 |[],_::_,_,h=>h.elim
 |_::_,[],_,h=>h.elim
 |_::_,_::_,[],h=>h.elim
def Xa {K:Frag}:∀{ks:List Str} {b:List D} {c:List V} {a:List Value},DVs K m H b c→Vals c a→
 ((ks.zip b).lookup x=none∧valueAt (ks.zip a) x=none)∨∃d u v,(ks.zip b).lookup x=some d∧valueAt (ks.zip a) x=some u∧DV K m H d v∧RelV v u
 |[],_,_,_,_,_=>.inl ⟨rfl,rfl⟩
 |k::ks,[],_,_,d,r=>by simp only [DVs] at d;subst d;cases r;exact .inl ⟨rfl,rfl⟩
 |k::ks,y::l,_,_,d,r=>by
  simp only [DVs] at d;obtain ⟨v,c,rfl,f,g⟩:=d;cases r with
  |@cons _ u _ a h i=>
   rw [Lk,Lk,E4]
   by_cases e:x=k
   ·subst e;rw [beq_self_eq_true];refine .inr ⟨y,u,v,rfl,?_,f,h⟩;simp [valueAt]
   ·rw [beq_eq_false_iff_ne.mpr e];have j:valueAt ((k,u)::ks.zip a) x=valueAt (ks.zip a) x:=by unfold valueAt;rw [List.find?_cons_of_neg (by simpa using Ne.symm e)]
    rw [j];exact Xa g i
def GQ (k:List Str) (a:List D) (y z:D) (h:HD):Out D:=match y with
 |.str x=>.ok (((k.zip a).lookup x).getD z) h
 |_=>.stuck
noncomputable def MY (b:List Str) (f:MA) (g k:ME):ME:=fun a h=>(f a h).bind fun x c=>(g a c).bind fun y d=>(k a d).bind fun z e=>GQ b x y z e
section
variable {X:Cx} {E:XK}
def MZ (X:Cx) (E:XK) (pos:Pos) (c:List Str) (k:List (Option Expr)) (v:List Expr) (f:MA):Prop:=
 ∀(p:PQ) (s:Shared) (a:L2.St) (H:Hp) (Q:List V→Hp→Prop),Inv X p a H s→L9 X.K E f a H Q→
  wpAny (model X.prog X.w) X.A (evalPairs (pairTrees k v X.env pos)) (fun w d=>∃b h,Inv X p a h d∧Qf c b w∧Q b h) X.xe s
def mH:MZ X E pos [] [] [] Af:=fun a s c H Q I z=>by obtain ⟨m,d,h,b,e,p⟩:=z;exact pairTrees_nil_walk ⟨[],H,I,trivial,p [] m H (AI _) (.refl _) b .nil⟩
def mI {k:Str} {j:Nat} {v:Expr} {B:List Str} {b:List (Option Expr)} (G:Ev X E v f) (J:MZ X E pos B b c n):MZ X E pos (k::B) (some (.Constant (.str k) j l)::b) (v::c) (Ac f n):=fun a s e H Q I z=>by
 obtain ⟨m,C,h,L,F,p⟩:=z;refine pairTrees_cons_walk (Ap (Ul a s e H (fun v g=>v=.str k∧g=H) I ⟨rfl,rfl⟩) fun u M N=>?_);obtain ⟨x,g,O,r,rfl,rfl⟩:=N;refine Ap (G a M e g (fun v d=>L9 X.K E n e d fun i o=>Q (v::i) o) O ⟨m,C,h,L,F,wa.bind p fun x P v R g _ l S q r T=>⟨R,C,P,q,F.keep l S,wa.bind T fun xs h2 i U d _ W Y t w A=>A _ U d (AI _) (.refl _) t (DVs.cons (DV.keep W Y r) w)⟩⟩) fun u2 Z z2=>?_
 obtain ⟨y,d,I2,w,A⟩:=z2;refine Ap (J a Z e d _ I2 A) fun ws s3 z3=>?_;obtain ⟨i,o,I3,r3,q3⟩:=z3;exact ⟨y::i,o,I3,⟨r,w,r3⟩,q3⟩
def mJ {N:List Str} {f:List (Option Expr)} {l:List Expr} {e B:Expr} {n O i:Pos} (hp:MZ X E n N f l fa) (he:Ev X E e g) (he':Ev X E B k)
 (nd:N.Nodup:=by decide +kernel) (hall:f.all (·.isSome)=true:=by rfl) (hl:f.length=l.length:=by rfl) (h0:f≠[]:=by simp) (h15:f.length≤15:=by decide)
 (Y:attributeBase (.Dict f l n) "get" X.env (eval (.Dict f l n) X.env)=eval (.Dict f l n) X.env:=by rfl)
 (hfew:((backTo i (starEach [e,B] X.env)).all (fun x=>!x.1)&&(backToKw i (keywordEach [] X.env)).all (fun x=>x.1.isSome)
  &&decide ([e,B].length+([]:List Keyword).length+(if ([]:List Keyword).isEmpty then 0 else 1)<30))=true:=by rfl)
 (Z:(O.endLine==i.line)=true:=by rfl) (hs:starEach [e,B] X.env=(false,eval e X.env)::starEach [B] X.env:=by rfl) (hs2:starEach [B] X.env=(false,eval B X.env)::starEach [] X.env:=by rfl) (G:(backTo i (starEach [B] X.env)).any (·.1)=false:=by rfl):
 Ev X E (.Call (.Attribute (.Dict f l n) "get" O) [e,B] [] i) (MY N fa g k):=by
 intro j s J H Q I z;obtain ⟨m,R,h,hr,er,p⟩:=z;obtain ⟨a,ea⟩:∃a,a=s.heap.objs.size:=⟨_,rfl⟩
 obtain ⟨f0,f1,f2,f3,f4,f5⟩:=I.fpOk (H':=H) (AK s.heap.objs.size) I.fresh;have S:=lh I;rw [←ea] at f0 f1 f2 f3 f4 f5 S;have I1:Inv X j J H {s with heap:=s.heap.push {cls:=.type "dict",data:=.dict #[]}}:=I.kept (t':=s.toks) fun b o q=>AW _ q;have hnew:(s.heap.push {cls:=.type "dict",data:=.dict #[]}).get? a=some {cls:=.type "dict",data:=.dict #[]}:=by rw [ea];exact Bx _ rfl
 have I1':Inv X ((a,{cls:=.type "dict",data:=.dict #[]})::j) J H {s with heap:=s.heap.push {cls:=.type "dict",data:=.dict #[]}}:=I1.pins_of fun q u=>by
  rcases qa6.mp u with rfl |u
  ·exact ⟨hnew,f0,f1,f2,fun v=>by simp⟩
  ·exact I1.pin q (BA _ u)
 refine wpAny_Call_method_late Y hfew Z rfl (wpAny_Dict_walk (knd:=PySem.strKind X.prog X.w) hall hl h0 h15 (Ap (hp _ _ J H (fun vs H1=>∃L T U,HR X.K L T H1∧ER X.K L H1 R J∧DVs X.K L H1 U vs∧wa X.K (rD X.K) L H1 E Q ((g R T).bind fun y h2=>(k R h2).bind fun z h3=>GQ N U y z h3)) I1' ⟨m,R,h,hr,er,wa.bind p fun U T vs L H1 eo p1 k1 hr1 r1 r=>⟨L,T,U,hr1,er.keep p1 k1,r1,r⟩⟩) fun ws s2 z2=>?_));obtain ⟨vs,H2,I2,pr,L,T,U,hr1,er1,dv,r⟩:=z2;rw [←ea];obtain ⟨g1,g2,_⟩:=I2.pin (a,{cls:=.type "dict",data:=.dict #[]}) (BA _ (AX ..));simp only at g1 g2;obtain ⟨us,ru,lu,c⟩:=W9 (P:=X.prog) (w:=X.w) pr;refine ⟨_,c,⟨_,#[],0,g1,⟨rfl,rfl,rfl⟩,rfl,fun _ he=>by simp at he,Pairs.nil,List.nodup_nil⟩,fun h' dd hsm=>?_⟩;rw [W8 (us:=us) nd (by simp),G7] at dd;have I2u:Inv X j J H2 s2:=I2.pins_of fun q u=>I2.pin q (BA _ (A2 _ u));have I3:Inv X j J H2 {s2 with heap:=h',toks:=s2.toks+ws.length}:=I2u.turned (it:=a) (fun b o hb q=>(hsm.2 b hb).trans q) g2 f1 f3 f4 f5;obtain ⟨o,es,ep,d1,d2,d3⟩:=dd;have I3':Inv X ((a,o)::j) J H2 {s2 with heap:=h',toks:=s2.toks+ws.length}:=I3.pins_of fun q u=>by
  rcases qa6.mp u with rfl |u
  ·exact ⟨d1,g2,f1,f2,fun v=>by rw [d3.1];simp⟩
  ·exact I3.pin q (BA _ u)
 refine ⟨"dict","dict.get",PySem.F.plainAttrs_dict,PySem.F.slot_dict_get,PySem.F.type_dict_get,⟨o,d1,d2.1⟩,fun b e=>by cases e;exact ⟨o,d1,d2.2.1⟩,?_⟩;have hA:=(Ja he (Ja he' Kr hs2) hs) i ((a,o)::j) _ J H2 (fun vs' F=>∃W h4 y z yv zv,vs'=[yv,zv]∧HR X.K W h4 F∧DVs X.K W F U vs∧DV X.K W F y yv∧DV X.K W F z zv∧wa X.K (rD X.K) W F E Q (GQ N U y z h4)) I3' ⟨L,R,T,hr1,er1,by
  have q2:wa X.K (rD X.K) L H2 E Q ((Ac g (Ac k Af) R T).bind fun ys h2=>match ys with
   |[y,z]=>GQ N U y z h2
   |_=>.stuck):=by
   unfold Ac Af;rw [Out.bind_assoc];cases eg:g R T with
   |stuck=>rw [eg] at r;exact r
   |err C fs h2=>rw [eg] at r;exact r
   |ok y h2=>
    rw [eg] at r;simp only [Out.bind_ok] at r ⊢;rw [Out.bind_assoc];cases ek:k R h2 with
    |stuck=>rw [ek] at r;exact r
    |err C fs h2=>rw [ek] at r;exact r
    |ok z h3=>rw [ek] at r;exact r
  refine wa.bind q2 fun ys h4 vs4 W F eo p4 k4 M r4 A=>?_;clear eo;split at A
  ·rename_i y z;simp only [EO,DVs] at r4;obtain ⟨yv,w,rfl,ry,zv,w',rfl,rz,rfl⟩:=r4;exact ⟨W,h4,y,z,yv,zv,rfl,M,dv.keep p4 k4,ry,rz,A⟩
  ·exact A.elim⟩
 rw [hs] at hA ⊢;refine callWith_builtin (by show (false||(backTo i (starEach [B] X.env)).any (·.1))=false;rw [G]<;>rfl) (evalArgs_plain ?_);refine Ap hA fun us' s4 z4=>?_;obtain ⟨vs',F,I4,r4,W,h4,y,z,yv,zv,rfl,M,dv4,ry,rz,A⟩:=z4;obtain ⟨uy,uz,rfl,r1,r2⟩:=Km r4;have I4u:Inv X j J F s4:=I4.pins_of fun q u=>I4.pin q (BA _ (A2 _ u));have o4:=(I4.pin (a,o) (BA _ (AX ..))).1;have dd4:s4.heap.DictOf (PySem.strKind X.prog X.w) a (N.zip us):=⟨o,es,ep,o4,d2,d3⟩
 unfold GQ at A;split at A
 ·rename_i x;simp only [DV] at ry;subst ry;obtain ⟨t,rfl⟩:=r1;refine call_meetsIn PySem.F.slot_dict_get ⟨o,o4,d2.1⟩ PySem.F.entry_dict_get (PySem.F.args_dict_get_3 _ _ _) (meets_dict_get_default (PySem.strKind X.prog X.w) a (k:=x) (by show Value.isStrOf x (.str x t)=true;unfold Value.isStrOf;simp) S uz) ⟨_,dd4.mapOf,?_⟩;rcases Xa (ks:=N) (x:=x) dv4 ru with ⟨e1,e2⟩ |⟨d,u',v',e1,e2,e3,e4⟩
  ·rw [e1] at A;rw [e2];exact ⟨zv,F,I4u.tok _,r2,Bb M A rz⟩
  ·rw [e1] at A;rw [e2];exact ⟨v',F,I4u.tok _,e4,Bb M A e3⟩
 ·exact A.elim
@[simp] theorem v8 {f:ME} {lo b:MO} {a:Ag} {h:HD} {Q:D→HD→Prop}:Wp (KW f lo b a h) Q=Wp (f a h) fun x c=>Wp (lo a c) fun l d=>Wp (b a d) fun u e=>Wp (KV x l u e) Q:=by unfold KW;simp only [AL]
end
open Classical in
noncomputable def Ia (F f:TF):MS:=fun a h=>match (a[0]?:Option (Option D)),(a[1]?:Option (Option D)) with
 |some (some x),some (some y)=>(match Eu "Desk" "say" x h with
  |.ok _ _=>(match F [x,y] h with
   |.ok d b=>.ok (.nx,a.set 2 (some d)) b
   |.err (.str n _) fs b=>if n∈wo then (match Jx fs with
    |some is=>(match f [.exc n is] b with
     |.ok d c=>.ok (.nx,(a.set 2 (some d)).set 3 none) c
     |_=>.stuck)
    |none=>.stuck) else .stuck
   |_=>.stuck)
  |_=>.stuck)
 |_,_=>.stuck
def mK {n mn:Str} {K:Frag} {H:Hp} (g:nsIn K mainGlobals n=some (some (.ref C))) (h:HR K m b H) (r:DV K m H x v) (q:Eu n mn x b=.ok y c):
 ∃a d f,v=.ref a∧H a=some (.ins C d f)∧f.lookup mn=none:=by
 unfold Eu at q;split at q
 ·rename_i l;split at q
  ·rename_i t fs i;split at q
   ·rename_i j;obtain ⟨rfl,k⟩:=j;simp only [DV] at r;obtain ⟨a,rfl,o⟩:=r;obtain ⟨u,d,f,e,p,s⟩:=h.cells l _ a i o;rw [g] at e;cases e;exact ⟨a,d,f,rfl,p,s.none k⟩
   ·cases q
  ·cases q
 ·cases q
section
variable {X:Cx} {E:XK}
def mM {k kk j:Nat} {F Fk:TF} {q1 U q3 q4 q5 q6 p7 p8 p9 p10 p11 p12 p13 p14:Pos} (lv:Lv X E) (hN:X.N=(["_law_desk","_law_row","_law_word","_law_e"]:List Str))
 (k0:X.env.kindOf "_law_desk"=some .local) (W:X.env.kindOf "_law_row"=some .local) (k2:X.env.kindOf "_law_word"=some .local) (k3:X.env.kindOf "_law_e"=some .local)
 (Cm:GP X.prog X.w X.K X.mg X.base "Desk" "say" j F) (hr:wm kk X.A) (hj:j≤kk) (hk:k≤kk) (et:wU X.K=true)
 (hgS:X.env.kindOf "SwitchError"=some .globalImplicit) (hgK:X.env.kindOf "_law_kind"=some .globalImplicit)
 (hkind:CaM X.prog X.w X.K X.mg X.base "_law_kind" k Fk) {pl:Sem Bool}
 (hst:starEach [.Name "_law_row" q4] X.env=(false,eval (.Name "_law_row" q4) X.env)::starEach [] X.env:=by rfl) (hpl:(backTo q5 (starEach [] X.env)).any (·.1)=false:=by rfl)
 (ht:eval (.Call (.Attribute (.Name "_law_desk" U) "say" q3) [.Name "_law_row" q4] [] q5) X.env=(do
  let ov ←eval (.Name "_law_desk" U) X.env
  standAt q3.atName
  let (f,first) ←holding [ov] (getMethod ov "say" pl)
  callWith q5 f first (backTo q5 (starEach [.Name "_law_row" q4] X.env)) (backToKw q5 (keywordEach [] X.env))):=by rfl)
 (hsw:swapsWith (.Call (.Attribute (.Name "_law_desk" U) "say" q3) [.Name "_law_row" q4] [] q5) (some (.Name "_law_word" q1)) q6.line X.env=pure false:=by rfl):
 Ex X E (.Try [.Assign [.Name "_law_word" q1] (.Call (.Attribute (.Name "_law_desk" U) "say" q3) [.Name "_law_row" q4] [] q5) q6] [.ExceptHandler (some (.Name "SwitchError" p7)) (some "_law_e") [.Assign [.Name "_law_word" p8] (.Call (.Name "_law_kind" p9) [.Name "_law_e" p10] [] p11) p12] p13] [] [] p14) (Ia F Fk):=by
 obtain ⟨Sw,hSw⟩:=PP et (show ("SwitchError":Str)∈wo by decide +kernel);obtain ⟨C,f,fd,ps,c1,c2,c3,G,hbd⟩:=Cm.ex;rintro B s σ H Dn I ⟨m,ρ,h,hr1,er,p⟩;refine Classical.byContradiction fun S=>?_;have hN0:X.N[0]?=some ("_law_desk":Str):=by rw [hN];rfl
 have hN1:X.N[1]?=some ("_law_row":Str):=by rw [hN];rfl
 have hN2:X.N[2]?=some ("_law_word":Str):=by rw [hN];rfl
 have hN3:X.N[3]?=some ("_law_e":Str):=by rw [hN];rfl
 have nd:X.N.Nodup:=by rw [hN];decide +kernel
 unfold Ia at p;split at p
 ·rename_i x y ex0 ey0;split at p
  ·rename_i z0 h0 em;obtain ⟨vx,hvx,rvx⟩:=er.2 0 _ ex0;obtain ⟨vy,hvy,rvy⟩:=er.2 1 _ ey0;obtain ⟨a,dx,fv,rfl,hav,hlk⟩:=mK c1 hr1 rvx em;have vl:∀{i:Nat} {x:Str} {v:V},X.N[i]?=some x→σ[i]?=some (some v)→X.env.kindOf x=some .local→(x==("__debug__":Str))=false→∀{Q:Value→Shared→Prop} {EE:Value→Shared→Prop} {ps:Pos},(∀u,RelV v u→Q u s)→wpAny (model X.prog X.w) X.A (eval (.Name x ps) X.env) Q EE s:=fun {i x v} hi hv hk hd {Q EE ps} w=>by
    obtain ⟨m0,hn0,hl0⟩:=I.loc;obtain ⟨u,ru,lk⟩:=hl0 i x v hi hv (.inl hk);rcases lk with ⟨hk,hm⟩ |⟨z,_⟩
    ·exact wpAny_Name (wpAny_loadName_local I.ok.kind hk hn0 hm (w u ru)) hd
    ·rcases z with z |z<;>(rw [hk] at z;cases z)
   have run:∀(u:Value) (Q:VK) (E':XK),RelV vy u→wa X.K (rD X.K) m H E' Q (F [x,y] h)→codeAny (model X.prog X.w) X.A (.call (.ref f) ⟨[.ref a,u],[]⟩) (CR (Br X.prog X.w X.K) X.stack X.prog X.w H s Q E') s:=fun u Q E' ru q=>by
    have U:spE X.K F [.ref a,vy] H Q E':=⟨m,[x,y],h,hr1,by simp only [DVs];exact ⟨_,_,rfl,rvx,_,_,rfl,rvy,rfl⟩,q⟩
    have hl:([Value.ref a,u]:List Value).length=ps.length:=G.len _ _ _ _ U;have hb':=hbd s [.ref a,u] I.kIn (by rw [FO];exact hl);rw [FO] at hb';exact G.run X.A X.stack s H ⟨[.ref a,u],[]⟩ [.ref a,u] [.ref a,vy] Q E' (hr.mono hj) I.env0 hb' (.cons rfl (.cons ru .nil)) U
   have start:∀{Q:Flow→Shared→Prop} {EE:Value→Shared→Prop},(∀u,RelV vy u→codeAny (model X.prog X.w) X.A (.call (.ref f) ⟨[.ref a,u],[]⟩) (fun r s'=>match r with |.ok (.ret d)=>wpAny (model X.prog X.w) X.A (storeName X.env "_law_word" d) (fun _ s2=>Q .next s2) EE s' |.error e=>EE e s' |_=>False) s)→
    wpAny (model X.prog X.w) X.A (execs [.Assign [.Name "_law_word" q1] (.Call (.Attribute (.Name "_law_desk" U) "say" q3) [.Name "_law_row" q4] [] q5) q6] X.env) Q EE s:=fun {Q EE} hc=>by
    refine wpAny_execs_cons (wpAny_Assign_Name (methodCall_KW (pl:=pl) (vl hN0 hvx k0 (by decide) fun u ru=>?_) ht) hsw);obtain rfl:u=Value.ref a:=ru;refine OM I hav c2 c3 hlk ?_;refine callWith_K (first:=[.ref a]) (h₀:=X.base) I.ok.mod.kin c3.kp ?_ hst hpl;rw [hst];refine Calls.spliced_cons (vl hN1 hvy W (by decide) fun u ru=>?_);refine Calls.spliced_nil ⟨I.kIn,?_⟩;refine wpAny_call (codeAny_mono (hc u ru) fun r s' w=>?_);cases r with
    |error e=>exact w
    |ok fl=>
     cases fl with
     |ret u=>exact Bm w (fun _ _ z=>wpAny_execs_nil z) fun _ _ z=>z
     |next=>exact w.elim
     |brk=>exact w.elim
     |cont=>exact w.elim
   refine S (wpAny_Try_except (start fun u ru=>?_));clear S;refine Classical.byContradiction fun S=>?_;cases ho:F [x,y] h with
   |stuck=>rw [ho] at p;exact p.elim
   |ok d h1=>
    rw [ho] at p;refine S (codeAny_mono (run u (fun v l=>∃J,m <+:J∧Kp H l∧HR X.K J h1 l∧DV X.K J l d v) E0 ru (by rw [ho];exact fun v J l p1 W N rd=>⟨J,p1,W,N,rd⟩)) fun r s' w=>?_);cases r with
    |error e=>obtain ⟨_,_,_,_,_,_,_,_,_,_,_,_,q⟩:=w;exact q.elim
    |ok fl=>
     cases fl with
     |ret u=>obtain ⟨v,l,os,L,un,Y,rv,J,p1,W,N,rd⟩:=w;refine Ke (I.call' os un Y L (fun b P=>absurd P (by simp))) nd hN2 (.inl k2) rv (fun s7 I7 _=>?_) (.inr k2);exact wpAny_execs_nil ⟨_,l,I7,p J l p1 W N _ ((er.keep p1 W).set rd)⟩
     |next=>exact w.elim
     |brk=>exact w.elim
     |cont=>exact w.elim
   |err Cv fs h1=>
    rw [ho] at p;cases Cv with
    |str n t=>
     simp only at p;split at p
     ·rename_i hn;refine S (codeAny_mono (run u (fun _ _=>False) (fun C' da l=>C'=.str n t∧∃J,m <+:J∧Kp H l∧HR X.K J h1 l∧XD X.K J l fs da) ru (by rw [ho];exact fun da J l p1 W N xd=>⟨rfl,J,p1,W,N,xd⟩)) fun r s1 w=>?_);clear S;cases r with
      |ok fl=>
       cases fl with
       |ret u=>obtain ⟨_,_,_,_,_,_,_,z⟩:=w;exact z.elim
       |next=>exact w.elim
       |brk=>exact w.elim
       |cont=>exact w.elim
      |error e=>
       obtain ⟨g,Cc,n',da,l,rfl,os,L,un,Y,fly,nm,hE,J,p1,W,N,xd⟩:=w;refine Classical.byContradiction fun S=>?_;have hnn:n'=n:=by cases hE;rfl
       subst hnn;have I1:Inv X B σ l s1:=I.call' os un Y L (fun b P=>absurd P (by simp));obtain ⟨A,R,oe,ws,a0,T,oT,ts,e1,e2,e3,e4,e5,e6,e7,e8,e9,e10,e11⟩:=fly;have fro:X.A.frames=some (X.env::X.outer):=by rw [←lv.stk];exact I1.ok.frames
       have stk:s1.heap.FunFrames X.base (X.env::X.outer):=by have:=I1.stack;rw [lv.stk] at this;exact this
       have frN:∀b∈frs X.stack,l b=none:=fun b P=>I1.stkFree b P;have frO:∀b∈frs X.stack,∃o,s1.heap.get? b=some o∧∀vs,o.data≠.fields vs:=fun b P=>(I1.stack.mem P).2;have fly0:Heap.FlyingW (blank (fun b=>b=g∨b=T∨b∈frs X.stack) s1.heap) (X.env::X.outer) g (.ref Cc) a0 s1.heap:=
        ⟨Pi,HA (.inl rfl),Mt stk fun b P=>.inr (.inr (by rw [lv.stk];exact P)),oe,ws,T,oT,ts,e1,e2,e3,e4,HA (.inr (.inl rfl)),e7,e8,e9,e10⟩
       refine S (jV fro lv.fr fly0 fun h4 held4 sm4 D4=>?_);clear S;refine jW held4 fun h5 O sm5 D5=>?_;refine Classical.byContradiction fun S=>?_;obtain ⟨un5,hok5,fly5⟩:=Wg un Y A e5 R e6 frN frO O.1 (sm4.trans sm5) O.2.2.2 e1 e11 (D4.trans D5);have I5:Inv X B σ l {s1 with heap:=h5}:=I.call' (s':={s1 with heap:=h5}) os un5 hok5 L (fun b P=>absurd P (by simp));have hmS:X.mg "SwitchError"=some (.ref Sw):=mg_of I.mod.kin I.mod.glob hSw;have T5:=My et hn nm;obtain ⟨_,_,oe5,ws5,_,_,_,_,f1,f2,f3,_⟩:=id fly5;refine S (wpAny_handleBy_cons (codeAny_handlers_test ?_) (by intro q;cases q));clear S;refine Calls.Name_function_global I5.ok.kind hgS (Calls.loadGlobal_global (by rw [I5.ok.glob];exact I5.mod.glob.keeps I5.bk) hmS ?_) (by decide);refine (exm_one (M:=model X.prog X.w) I5.kIn (TyAt.type ⟨oe5,f1,f2.1⟩) (T5.sw Sw hSw)).here ?_;simp only [if_true];refine codeAny_handlers_suite_as (jX O fun h6 Z sm6 D6=>?_);obtain ⟨un6,hok6,fly6⟩:=Wg un Y A e5 R e6 frN frO Z.1 ((sm4.trans sm5).trans sm6) Z.2.2.2 e1 e11 ((D4.trans D5).trans D6);have I6:Inv X B σ l {s1 with heap:=h6}:=I.call' (s':={s1 with heap:=h6}) os un6 hok6 L (fun b P=>absurd P (by simp));obtain ⟨_,_,oe6,ws6,_,_,_,_,g1,g2,g3,_,_,_,_,_,_,_,g11⟩:=id fly6;have older:∀b,s.heap.get? b=none→X.s₀.heap.get? b=none:=lv.older I;have xok:wu X.prog X.w (Av l g (.ext (Gq Cc da g))) h6 g (.ext (Gq Cc da g)):=
        ⟨⟨oe6,ws6,g1,g2.1,fun d z=>g11.trans z,g3⟩,⟨oe6,g1⟩,fun ha hb' z2_ k'=>by obtain ⟨o,w',z1,z2,z3,z4⟩:=z2_;exact (⟨o,w',k' o z1,z2,z3,z4⟩)⟩
       have neL:g≠X.env.locals:=fun z=>by obtain ⟨mL,⟨oL,_,_,hoL,_⟩,_⟩:=I.loc;rw [←z,A] at hoL;cases hoL
       have neC:∀x c,X.env.cells.lookup x=some c→c≠g:=fun x c ex z=>by obtain ⟨v,o,hoc,_⟩:=I.cell x c ex;rw [z,A] at hoc;cases hoc
       have neP:∀q∈X.pn++B,q.1≠g:=fun q w z=>by have:=(I.pin q w).1;rw [z,A] at this;cases this
       have I6':=LS.Inv.track I6 (older g A) R neL neC neP xok;have kx:Kp l (Av l g (.ext (Gq Cc da g))):=.new R;refine Ke (v:=.ref g) I6' nd hN3 (.inl k3) rfl (fun s7 I7 _=>?_) (.inr k3);split at p;rename_i is his;split at p
       ·rename_i d h2 hk2;have hr7:HR X.K J h1 (Av l g (.ext (Gq Cc da g))):=N.new R;have er7:ER X.K J (Av l g (.ext (Gq Cc da g))) (ρ.set 3 (some (.exc n' is))) (σ.set 3 (some (.ref g))):=
         ((er.keep p1 W).keep (AI _) kx).set (by simp only [DV];exact ⟨g,Cc,da,rfl,nm,CA,fun f i z=>by obtain ⟨b,fv,v,q1,U,q3,q4⟩:=xd f _ (Wh his z);simp only [DV] at q4;exact ⟨b,fv,q1,by rw [AJ (BY U R)];exact U,by rw [q3,q4]⟩⟩)
        have hρ:3 < ρ.length:=by rw [er.1,I.len,hN];decide
        have sx:Df (GM X g) E0 [.Assign [.Name "_law_word" p8] (.Call (.Name "_law_kind" p9) [.Name "_law_e" p10] [] p11) p12] (Am 2 (Ab Fk (Ac (Ad 3) Af))):=
         O0 (Vc (X:=GM X g) (i:=2) nd hN2 (Or.inl k2) (jU (X:=GM X g) hkind (wF.of hr _) (Ja (UZ (X:=GM X g) (Uk (X:=GM X g) hN3 (.inl k3))) Kr) hk hgK) (hf:=.inr k2))
        have post:Ko (GM X g).K E0 (Am 2 (Ab Fk (Ac (Ad 3) Af))) {nx:=fun σ' H''=>Dn.nx (σ'.set 3 none) H'',rt:=fun _ _=>False} (σ.set 3 (some (.ref g))) (Av l g (.ext (Gq Cc da g))):=by
         refine ⟨J,ρ.set 3 (some (.exc n' is)),h1,hr7,er7,?_⟩;have ev:Am 2 (Ab Fk (Ac (Ad 3) Af)) (ρ.set 3 (some (.exc n' is))) h1=.ok (.nx,(ρ.set 3 (some (.exc n' is))).set 2 (some d)) h2:=by unfold Am Ab Ac Af Ad;rw [BP hρ];simp only [Out.bind_ok];rw [hk2];rfl
         rw [ev];intro m2 H2 p2 k2 hr2 σ' er2;refine p m2 H2 (p1.trans p2) ((W.trans kx).trans k2) hr2 _ ⟨by simp [er2.1.symm],fun i di e=>?_⟩
         by_cases hi:3=i
         ·subst hi;rw [BP (by simpa using hρ)] at e;cases e
         ·rw [BI hi] at e;obtain ⟨v,z1,z2⟩:=er2.2 i di (by
           by_cases h1i:2=i
           ·subst h1i;rw [BP (by omega)] at e;rw [BP (by simp;omega)];exact e
           ·rw [BI h1i] at e;rw [BI h1i,BI hi];exact e)
          exact ⟨v,by rw [BI hi];exact z1,z2⟩
        refine Bm (sx B s7 _ _ _ (Inv.marked I7) post) (fun fl s8 h8=>?_) fun _ _ z=>False.elim z;cases fl with
        |next=>obtain ⟨σ',H'',I8,q8⟩:=h8;exact jY (Inv.unmarked I.ok I8) nd hN3 k3 fun s9 I9=>⟨_,H'',I9,q8⟩
        |ret u=>obtain ⟨_,_,_,_,_,z⟩:=h8;exact False.elim z
        |brk=>obtain ⟨_,_,_,z⟩:=h8;exact False.elim z
        |cont=>obtain ⟨_,_,_,z⟩:=h8;exact False.elim z
       ·exact p.elim
       ·exact p.elim
     ·exact p.elim
    |_=>exact p.elim
  ·exact p.elim
 ·exact p.elim
end
end LS
set_option maxHeartbeats 0
namespace LK
open PySem PySem.Spec PyProof.Rows L2 LS
section
local macro_rules
 |`({$n:num})=>`(Ad $n)
 |`({-$n:num})=>`(mC (.int $n))
 |`({$s:str})=>`(mC (.str $s))
 |`(#[])=>`(Af)
 |`(#[$a])=>`(Ac $a Af)
 |`(#[$a,$as,*])=>`(Ac $a #[$as,*])
 |`($a:term::$b:term)=>`(AM $a $b)
noncomputable abbrev Xb:MS:=Ak (C0 (Ab (Bo AZ) #[{0},mC (.ty "int")]) (U3 (Ab (Bo AZ) #[{0},mC (.ty "bool")])))
noncomputable def Ib:=Aw 1 1 Xb
noncomputable abbrev Xd:MS:=Ak (C0 (Ab (Bo AZ) #[{0},mC (.ty "tuple")]) (Gs Ks Ks {-1} (Ab (Ai Au) #[{0}]) {-8}))
noncomputable def M0:=Aw 1 1 Xd
abbrev Xe:MS:=Ak (Ab (Ai Bi) #[Ax [none,none,some 1,some 2] (Dm #[{0}]) (Bs 0 1) AH (Dg (Aq (Aa Az (Aa (Fh false) {0} {2}) {3})) {1} (Aa Cw {-1} {1}))])
def Qg:=Aw 3 3 Xe
abbrev Xf:MS:=Am 1 (Ab (Ai Au) #[{0}])::Am 2 (Ab (Ai Au) #[Aa Ah {0} {-0}])::Ak (F5 [none,none,none,none,some 1,some 2] (BZ #[{1}]) (AB 0) AH (Ep (Fm #[Aa Ao {0} {-1},{4}]) (AB 1) AH (Ep (BZ #[{5}]) (AB 2) AH (Ep (Fm #[Aa Ao {2} {-1},{5}]) (AB 3) AH (FA (AR #[{0},{1},{2},{3}]))))))
def Qh:=Aw 1 3 Xf
noncomputable abbrev Xg:MS:=C3 (En [2,3,4,5]) {1}::Ak (Aa Az (Aa DA (Aa Ao (Aa Ao (Aa Ao (Aa Ah (Aa Ah {0} {2}) {4}) (Aa Ah (Aa Ah {0} {2}) {5})) (Aa Ah (Aa Ah {0} {3}) {4})) (Aa Ah (Aa Ah {0} {3}) {5})) {-2}) {-1})
noncomputable def Qi:=Aw 2 6 Xg
abbrev Xh:MS:=Ak (Ab (Ai Bi) #[Ax [none,none] (Fw #[{0},{1}]) (Bs 0 1) AH (Aa Cw (Aa Ao {0} {-1}) (Aa BU {-2} {1}))])
def M1:=Aw 2 2 Xh
abbrev Xi:MS:=Ak (Ab (Ai BS) #[Ax [none,some 1] (A3 {0}) (AB 0) AH (Ab (Bo FR) #[{0},Aa Cw {1} {0}])])
def Qj:=Aw 2 2 Xi
abbrev Xj:MS:=Ak (Ab (Ai Bi) #[Ax [none,none,some 1] (Dm #[{0}]) (Bs 0 1) (Aq (Aa Gv (Aa BU {-2} {1}) {2})) {0}])
def Qk:=Aw 2 2 Xj
abbrev Xk:MS:=Am 3 (Aa BU (AO #[{-0}]) (Aa Ao (Ab (Ai Au) #[{0}]) {2}))::BK (Dm #[{0}]) (Bs 4 5) (KC {3} (Aa Ao {4} {1}) {5}::KC {3} (Aa Cw (Aa Ao {4} {2}) {1}) {5})::Ak {3}
def M3:=Aw 3 6 Xk
noncomputable abbrev Xl:MS:=Eh 2 3 #[{1},{0}]::HG (Aq (Aa Gv {3} {-0})) (Eh 2 3 #[{3},Aa DA {2} {3}])::Ak (AR #[Aa Gx {0} {2},Aa Gx {1} {2}])
noncomputable def KY:=Aw 2 4 Xl
abbrev Xm:MS:=Ak (Ab (Ai Bi) #[Ax [none,none] (Fw #[{0},{1}]) (Bs 0 1) AH (Aa Ao {0} {1})])
def M4:=Aw 2 2 Xm
noncomputable abbrev Xn:MS:=Am 3 (Ab (Ai MF) #[Aa Ah {0} {1}])::Hu {3} {2} (Aa Cw {-1} (Aa Ah {3} {2}))::Ak (Aa Ao (Aa Ao (F4 {0} Ft (EV {1})) (AR #[Ab (Ai Bi) #[{3}]])) (F4 {0} (EV (Aa Ao {1} {-1})) Ft))
noncomputable def Ql:=Aw 3 4 Xn
noncomputable abbrev Xo:MS:=AU (DS (BN "Keeper" {0} "earlier") (BN "Keeper" {0} "now"))::F7 "Keeper" {0} "now" {1}
def GR:=Aw 2 2 Xo
noncomputable abbrev Qm:MS:=AC (Cq (B7 (BN "Keeper" {0} "earlier"))) (GI "NoRow" #[{"no deed stands"}]) AG::F7 "Keeper" {0} "now" (HY (BN "Keeper" {0} "earlier"))
noncomputable def KZ:=Aw 1 1 Qm
abbrev Xp:MS:=Ak (BN "Keeper" {0} "now")
def JJ:=Aw 1 1 Xp
abbrev Qn:MS:=Ak (Ab (Ai Bi) #[Ax [none,some 1] (KQ {0}) (AB 0) AH (Ck Cn MR {1} {0})])
def M5:=Aw 2 2 Qn
noncomputable abbrev Xq:MS:=AC (Cq (B7 (Ab (Bo AZ) #[{0},mC (.ty "str")]))) Gy AG
noncomputable def Qo:=Aw 1 1 Xq
noncomputable abbrev Xr:MS:=AC (Cq (B7 {0})) (GI "NoRow" #[{"this is no row of the desk"}]) AG
def GS:=Aw 1 1 Xr
abbrev Qp:MS:=AC (Aq (Aa Dh {1} (Ab (Ai Au) #[{0}]))) (Ak (Aa Ah {0} {1})) AG::Ak (Aa Ao (Aa BU {-6151} {1}) {-29})
def Qq:=Aw 2 2 Qp
abbrev Xs:MS:=Am 2 (Aa Ao (Aa BU (Aa Ao {0} {-1}) {-40692}) (Aa BU {-104729} {1}))::Am 2 (Aa Ao (Aa DA (Aa BU {2} {2}) {-2147483399}) {1})::Ak (Aa DA (Aa BU {2} (Aa Ao {2} {-31})) {-2147483563})
def Qr:=Aw 2 3 Xs
noncomputable abbrev Xu:MS:=C3 (Bs 2 3) (Ab (Bo Ku) #[Aa Ah {0} {-0},{1}])::Hu {0} {-0} {2}::Ak {3}
noncomputable def Bz:=Aw 2 4 Xu
noncomputable abbrev Xv:MS:=Am 1 (AO #[Ab (Bo AZ) #[{0},mC (.glo "NoBoard")],Ab (Bo AZ) #[{0},mC (.glo "NoLine")],Ab (Bo AZ) #[{0},mC (.glo "NoSwitching")],Ab (Bo AZ) #[{0},mC (.glo "NoNumber")]])::Am 1 (Aa Ao {1} (AO #[Ab (Bo AZ) #[{0},mC (.glo "Unlike")],Ab (Bo AZ) #[{0},mC (.glo "NoNet")],Ab (Bo AZ) #[{0},mC (.glo "NoPlace")],Ab (Bo AZ) #[{0},mC (.glo "NoText")]]))::Am 1 (Aa Ao {1} (AO #[Ab (Bo AZ) #[{0},mC (.glo "NoRow")],Ab (Bo AZ) #[{0},mC (.glo "TooMany")]]))::AC (Gr (Cq (B7 (Ab (Bo AZ) #[{0},mC (.ty "ValueError")]))) (Aq (Aa Bt (Ck CI HJ {1} (mC (.bl true))) {-1}))) (Ak {"! other"}) AG::AC (B7 (Aa Ah {1} {-9})) Gy AG::Am 2 (AO #[{"board"},{"line"},{"switching"},{"number"},{"unlike"},{"net"},{"place"},{"text"},{"row"}])::Ak (Aa Ao {"! "} (Aa Ah {2} (Ck CI HK {1} (mC (.bl true)))))
noncomputable def GT:=Aw 1 3 Xv
abbrev Xw:MS:=Am 3 (AO #[])::BK (Dm #[{0}]) (Bs 4 5) (Am 6 (AO #[])::BK (Dm #[{5}]) (Bs 7 8) (AU (DS {6} (Aa DA (Aa Ao (Aa Ao {8} (Ab (Ai FS) #[Aa (Fh false) {4} {1}])) (Ab (Ai FS) #[Aa (Fh false) {7} {2}])) {-2})))::AU (DS {3} (Ab (Ai Bi) #[{6}])))::Ak (Ab (Ai Bi) #[{3}])
def Ic:=Aw 3 9 Xw
abbrev Xx:MS:=Am 0 (AO #[{-0}])::BK (Fm #[{-1},{-256}]) (AB 1) (AU (DS {0} (Aa Ao (Aa Ah {0} (Aa Gx {1} {-2})) (Aa DA {1} {-2}))))::Ak {0}
def M6:=Aw 0 2 Xx
abbrev Qs:MS:=Ak (Ck Cn Dq {"/"} (Ax [none] (A3 {0}) (AB 0) AH (Ck Cn Dq {""} (Ax [none] (A3 {0}) (AB 0) AH (Aa GN {".#"} {0})))))
def Dr:=Aw 1 1 Qs
abbrev Xy:MS:=Am 1 {-0}::BK (BZ #[Ab (Ai Au) #[{0}]]) (AB 2) (BK (BZ #[{2}]) (AB 3) (Am 4 (Ab (Ai Au) #[Ax [none,none] (Fw #[Aa Ah {0} {2},Aa Ah {0} {3}]) (Bs 0 1) (Aq (Aa Bt {0} {1})) {-1}])::Am 1 (Aa Ao {1} (Aa BU {4} (Aa Cw (Ab (Ai Au) #[Aa Ah {0} {-0}]) {4})))))::Ak {1}
def Qt:=Aw 1 5 Xy
abbrev Xz:MS:=Am 1 (AO #[])::BK (A3 {0}) (AB 2) (AU (DS {1} (Ab (Ai Bi) #[Ax [none,none,some 2,some 0] (Fw #[{2},Aa Ah {0} {-0}]) (Bs 0 1) AH (Aa DA (Aa Ao (Aa Ao (Aa Ao {0} (Aa Ah {2} {-0})) {1}) (Aa Ah (Aa Ah {3} {-0}) {-0})) {-2})])))::Ak (Ab (Ai Bi) #[{1}])
def Ie:=Aw 1 3 Xz
abbrev Qu:MS:=Ak (C0 (Ab Ib #[{0}]) (Gs Ks Ks {1} {0} {2}))
noncomputable def Ig:=Aw 3 3 Qu
abbrev XA:MS:=AC (Cq (B7 (Ab (Bo AZ) #[{0},mC (.ty "tuple")]))) (Ak (mC (.bl false))) AG::Am 2 (DT {-1})::BK (A3 {0}) (AB 3) (AC (Gr (Cq (B7 (Ab Ib #[{3}]))) (Cq (Aq (Gs Dh Dh {2} {3} {1})))) (Ak (mC (.bl false))) AG::Am 2 {3})::Ak (mC (.bl true))
def JK:=Aw 2 4 XA
abbrev XB:MS:=Am 2 (AO #[{-1}])::BK (A3 {0}) (AB 3) (Am 2 (Ab M3 #[{2},{3},{1}]))::Ak {2}
def JL:=Aw 2 4 XB
abbrev M7:MS:=Am 1 (Ck Cn DZ {0} {" "})::AU (Ab GS #[Ab (Ai DR) #[Ax [none] (A3 {1}) (AB 0) AH (C0 (Aa Az (Ab (Ai JH) #[{0}]) {-1}) (Aa H0 {0} {"0123456789"}))]])::Ak (Ax [none] (A3 {1}) (AB 0) AH (Ab (Ai JI) #[{0}]))
def M8:=Aw 1 2 M7
abbrev XC:MS:=Am 2 (Ab Qq #[{0},{1}])::AC (Aq (Aa Az (Aa DA {2} {-2}) {-0})) (Ak (AO #[Aa Gx {2} {-2}])) AG::Am 3 {-0}::BK (BZ #[{-24}]) (AB 4) (Am 3 (Aa Ao (Aa BU {3} {-2147483647}) (Ab Qr #[{2},{4}])))::Ak (AO #[{3}])
def K0:=Aw 2 5 XC
abbrev XE:MS:=Eh 1 2 #[Ab Bz #[{0},{-2147483647}],{-0}]::BK (BZ #[{-24}]) (AB 3) (Am 1 (Aa DA (Aa Ao (Aa Ao (Aa BU {1} {-48271}) {-11}) {3}) {-2147483647})::Am 2 (Aa Ao (Aa BU {2} {-2147483647}) {1}))::Ak (AO #[{2}])
def K1:=Aw 1 4 XE
abbrev XF:MS:=Ak (Ab (Ai Bi) #[Ax [none,some 0] (BZ #[{1}]) (AB 0) (Aq (Aa Az (Ab Bz #[{1},{-2}]) {-1})) {0}])
def JM:=Aw 2 2 XF
abbrev Qv:MS:=C3 (En [1,2]) (AR #[Ab M6 #[],Ab (Ai Au) #[Aa Ah {0} {-0}]])::Am 3 (Ax [none] (A3 {0}) (AB 0) AH (Ab (Ai BS) #[Ax [none,none] (Dm #[{0}]) (Bs 0 1) AH (Aa Ff {1} {0})]))::Am 4 (AO #[])::BK (BZ #[Aa Ff {-1} {2}]) (AB 5) (Am 6 (Ax [none,some 1,some 5] (A3 {3}) (AB 0) AH (Aa Ah {1} (Aa P7 {0} {2})))::AU (DS {4} (Ab (Ai BS) #[Ax [none,some 2] (A3 {6}) (AB 0) AH (Ab (Bo FR) #[{0},Aa Cw {1} {0}])])))::Ak (Ab (Ai (Fv Fu)) #[{4}])
def Qw:=Aw 1 7 Qv
abbrev XG:MS:=Ak (Ab Ig #[{0},{-0},{-1}])
def Qx:=Aw 1 1 XG
noncomputable abbrev XH:MS:=AC (Cq (B7 (Ab Ig #[{0},{1},{2}]))) Gy AG
def M9:=Aw 3 3 XH
noncomputable abbrev Qy:MS:=AC (Cq (B7 (Ab Ig #[{0},{-0},Aa Cw {1} {-1}]))) (GI "NoLine" #[{"the board has no such line"}]) AG
noncomputable def GU:=Aw 2 2 Qy
abbrev XI:MS:=Am 3 (Ab JL #[Aa BU (AR #[{-0}]) {1},{-1}])::Ak (Ab (Ai BS) #[Ax [none,none,some 0,some 2] (Dm #[{3}]) (Bs 0 1) AH (Aa BU {1} (Ab (Bo FR) #[Aa Ao {2} {0},Aa Cw (Aa Cw {3} {2}) {0}]))])
def Qz:=Aw 3 4 XI
abbrev XJ:MS:=Am 3 (Ab Bz #[{0},{-5}])::Am 4 (Ab K1 #[{0}])::Am 5 (Aa Ah (AO #[{-3},{-1},{-5},{-3},{-2}]) {3})::Am 6 (AO #[])::BK (BZ #[{1}]) (AB 7) (AU (DS {6} (Ab (Ai Bi) #[Ax [none,some 4,some 5] (BZ #[{2}]) (AB 0) AH (Ab (Ai FS) #[Aa Dh (Ab Bz #[{1},{-6}]) {2}])])))::AC (Aq (Aa Az {3} {-3})) (Am 6 (Aa BU (AO #[Aa Ah {6} {-0}]) {1})) AG::Ak (Ab (Ai Bi) #[{6}])
def GV:=Aw 3 8 XJ
abbrev XM:MS:=Ak (C0 (Ab M0 #[{0}]) (Ab (Ai DR) #[Ax [none] (A3 {0}) (AB 0) AH (Ab Qx #[{0}])]))
def QC:=Aw 1 1 XM
noncomputable abbrev XN:MS:=AU (Ab M9 #[{0},{-1},{-8}])::AU (Ab M9 #[{1},{-1},{-8}])
noncomputable def QE:=Aw 2 2 XN
abbrev XO:MS:=Ak (Ab (Ai BS) #[Ax [none,some 1,some 2] (A3 {0}) (AB 0) AH (Ab Qz #[{0},{1},{2}])])
def Na:=Aw 3 3 XO
noncomputable abbrev Nb:MS:=AU (Ab GU #[{1},Ab (Ai Au) #[BN "Keeper" {0} "now"]])::AU (Ab GU #[{2},Ab (Ai Au) #[Aa Ah (BN "Keeper" {0} "now") {-0}]])::AU (B5 "Keeper" "change_to" GR {0} #[Ab Ql #[BN "Keeper" {0} "now",{1},{2}]])
noncomputable def JN:=Aw 3 3 Nb
abbrev QF:MS:=Am 2 (Ab Ic #[{1},Ab JM #[{0},Ab (Ai Au) #[{1}]],Ab JM #[{0},Ab (Ai Au) #[Aa Ah {1} {-0}]]])::AC (Aq (Aa Az (Ab Bz #[{0},{-3}]) {-0})) (Am 2 (Ab GV #[{0},Aa Ao {-1} (Ab Bz #[{0},{-3}]),Aa Ao {-1} (Ab Bz #[{0},{-3}])])) AG::Am 3 (C0 (Aa Az (Ab (Ai Au) #[{2}]) (Ab (Ai Au) #[{1}])) (C0 (Aa Az (Ab (Ai Au) #[Aa Ah {2} {-0}]) (Ab (Ai Au) #[Aa Ah {1} {-0}])) (Aa Az (Ab Ie #[{2}]) (Ab Ie #[{1}]))))::Ak (AR #[{2},Aa Ah (AO #[{"no"},{"yes"}]) (Ab (Ai FS) #[{3}])])
def Nd:=Aw 2 4 QF
abbrev XQ:MS:=AC (Gr (Cq (B7 (Ab M0 #[{0}]))) (Cq (B7 (Ab (Ai DR) #[Ax [none] (A3 {0}) (AB 0) AH (Ab QC #[{0}])])))) (Ak (mC (.bl false))) AG::Ak (Ab (Ai DR) #[Ax [none,some 0] (A3 {0}) (AB 0) AH (Aa Az (Ab (Ai Au) #[{0}]) (Ab (Ai Au) #[Aa Ah {1} {-0}]))])
def Nf:=Aw 1 1 XQ
abbrev XR:MS:=AU (Ab QE #[{0},{1}])::Ak (Ab KY #[Ab Na #[Aa BU (AR #[{-0}]) {1},{0},{0}],Aa Ff {-1} {0}])
def Ng:=Aw 2 2 XR
abbrev XS:MS:=AC (Cq (B7 (Ab Nf #[{0}]))) Gy AG
def Ds:=Aw 1 1 XS
abbrev XT:MS:=Ak (Ab (Ai (Fv Fu)) #[Ax [none,none] (A3 (AR #[Ab Ng #[{0},{1}],Ab Ng #[{1},{0}]])) (Bs 0 1) AH (Aa Gx {0} {1})])
def Nh:=Aw 2 2 XT
abbrev Ni:MS:=AU (Ab Qo #[{0}])::Am 1 (Ab (Ai Bi) #[Ax [none] (A3 (Ck Cn DZ {0} {"/"})) (AB 0) AH (Ab M5 #[{0},{".#"}])])::AC (Cq (B7 (Ab Nf #[{1}]))) Gy AG::Ak {1}
def JO:=Aw 1 2 Ni
abbrev XU:MS:=AU (Ab Ds #[{0}])::Ak (Ab (Ai Bi) #[Ax [none] (A3 {0}) (AB 0) AH (Ab (Ai BS) #[{0}])])
def Nj:=Aw 1 1 XU
abbrev XW:MS:=AU (Ab Ds #[{0}])::AC (Gr (Cq (B7 (Ab (Bo AZ) #[{1},mC (.ty "tuple")]))) (Aq (Aa Bt (Ab (Ai Au) #[{1}]) {-2}))) (Ak (mC (.bl false))) AG::Ak (C0 (Ab JK #[Aa Ah {1} {-0},Ab (Ai Au) #[{0}]]) (Ab JK #[Aa Ah {1} {-1},Ab (Ai Au) #[Aa Ah {0} {-0}]]))
def QG:=Aw 2 2 XW
abbrev XX:MS:=AU (Ab Ds #[{0}])::Ak (Ab (Ai Bi) #[Ax [none,some 0] (BZ #[Ab (Ai Au) #[Aa Ah {0} {-0}]]) (AB 0) AH (Ab (Ai Bi) #[Ax [none,some 0] (A3 {1}) (AB 0) AH (Aa Ah {0} {1})])])
def Nk:=Aw 1 1 XX
abbrev XY:MS:=AU (Ab Ds #[{0}])::AU (Ab Ds #[{1}])::Ak (C0 (Aa Az (Ab (Ai Au) #[{0}]) (Ab (Ai Au) #[{1}])) (Aa Az (Ab (Ai Au) #[Aa Ah {0} {-0}]) (Ab (Ai Au) #[Aa Ah {1} {-0}])))
def QH:=Aw 2 2 XY
abbrev XZ:MS:=AU (Ab Ds #[{0}])::Ak (Ax [none,some 0] (A3 (Ab Qh #[{0}])) (AB 0) (B7 (Ab Qi #[{1},{0}])) {0})
def QJ:=Aw 1 1 XZ
abbrev X0:MS:=AU (Ab Ds #[{0}])::Am 1 (Ab (Ai Au) #[{0}])::Am 2 (Aa BU (AR #[{-0}]) (Ab (Ai Au) #[Aa Ah {0} {-0}]))::Am 3 (AO #[])::BK (Dm #[{0}]) (Bs 4 5) (Am 6 (Aa Cw (Aa Cw {1} {4}) {-1})::Am 7 (AO #[Ab M4 #[{2},{5}],Ab M4 #[{2},Ax [none] (A3 {5}) (AB 0) AH (Aa Cw {-1} {0})]])::Am 8 (Ax [none,some 6,some 1] (A3 {7}) (AB 0) AH (Ab Na #[{0},{1},{2}]))::Am 9 (Dg (Aq (Aa Dh (Aa Ah {8} {-1}) (Aa Ah {8} {-0}))) {-1} {-0})::Am 2 (Aa Ah {7} {9})::AU (DS {3} (AR #[{9},Ab KY #[Aa Ah {8} {9},Aa Ff {-1} {6}]])))::Ak {3}
def QK:=Aw 1 10 X0
abbrev X1:MS:=AU (Ab Ds #[{1}])::F7 "Keeper" {0} "now" {1}::F7 "Keeper" {0} "earlier" (AO #[])
def Nl:=Aw 2 2 X1
abbrev QL:MS:=AU (Ab Ds #[{0}])::Ak (Ck Cn Dq {"/"} (Ax [none] (A3 {0}) (AB 0) AH (Ck Cn Dq {""} (Ax [none] (A3 {0}) (AB 0) AH (Aa GN {".#"} {0})))))
def QM:=Aw 1 1 QL
abbrev X2:MS:=Ak (Ab (Ai BS) #[Ab Nj #[{0}]])
def QN:=Aw 1 1 X2
abbrev X3:MS:=Ak (Ab Nj #[Ab Nk #[{0}]])
def Nm:=Aw 1 1 X3
abbrev X4:MS:=AC (Cq (B7 (Ab QG #[{0},{1}]))) Gy AG
def QP:=Aw 2 2 X4
abbrev X5:MS:=AU (Ab QP #[{0},{1}])::C3 (Bs 2 3) {1}::Ak (Ab (Ai Bi) #[Ax [none,none,some 3,some 2] (Dm #[{0}]) (Bs 0 1) AH (Ab Qg #[{1},{2},Aa (Fh false) {0} {3}])])
def Ih:=Aw 2 4 X5
abbrev X6:MS:=Am 1 (AO #[AR #[AR #[],Ab Nm #[{0}]]])::BK (Fm #[{-1},Ab (Ai Au) #[{0}]]) (AB 2) (Am 1 (Aa Ao {1} (Ax [none,none,some 2,some 0] (A3 {1}) (Bs 0 1) AH (AR #[Aa Ao {0} (AR #[{2}]),Ab M1 #[{1},Aa Ah {3} {2}]]))))::Ak {1}
def FD:=Aw 1 3 X6
abbrev X7:MS:=AU (Ab Ds #[{0}])::AC (Cq (B7 (Ab JK #[{1},Ab (Ai Au) #[{0}]]))) (GI "NoLine" #[{"this is no lot of the board's rows"}]) AG::Am 2 (Ab Nm #[{0}])::BK (A3 {1}) (AB 3) (Am 2 (Ab M1 #[{2},Aa Ah {0} {3}]))::Ak {2}
def QR:=Aw 2 4 X7
abbrev mO:MS:=F7 "Desk" {0} "kept" (EW "Keeper" Nl #[mC (WV [[0]])])
def Ii:=Aw 1 1 mO
abbrev QT:MS:=AC (Cq (B7 (Ab QH #[{0},{1}]))) (Ak (mC .non)) AG::Am 2 (Ab (Ai Bi) #[Ax [none,some 0,some 1] (BZ #[Ab (Ai Au) #[Aa Ah {0} {-0}]]) (AB 0) (Aq (Aa Bt (Aa Ah (Aa Ah {1} {-0}) {0}) (Aa Ah (Aa Ah {2} {-0}) {0}))) {0}])::Am 3 (Aa Bt (Aa Ah (Aa Ah {0} {-0}) {-0}) (Aa Ah (Aa Ah {1} {-0}) {-0}))::Am 4 (Ab (Ai Bi) #[Ax [none,some 0,some 1,some 3] (BZ #[Ab (Ai Au) #[{0}]]) (AB 0) (Aq (Aa Bt (Aa Bt (Aa Ah (Aa Ah {1} {0}) {-0}) (Aa Ah (Aa Ah {2} {0}) {-0})) {3})) {0}])::AC (Aq (Aa Bt (Ab Ih #[{0},AR #[{4},{2}]]) {1})) (Ak (mC .non)) AG::Ak (AR #[{4},{2}])
def JP:=Aw 2 5 QT
abbrev X8:MS:=AU (Ab Ds #[{0}])::Am 1 (Ab (Ai Bi) #[Ax [none,none] (Dm #[Aa Ah {0} {-0}]) (Bs 0 1) (Aq (Aa Az {1} {-1})) {0}])::Am 2 (Ab (Ai Bi) #[Ax [none,none,some 0] (Dm #[{0}]) (Bs 0 1) (Aq (Aa Bt (Aa Ah {1} {-0}) (Aa Ah (Aa Ah {2} {-0}) {-0}))) {0}])::Ak (Ab Ih #[{0},AR #[{2},{1}]])
def QU:=Aw 1 3 X8
abbrev X9:MS:=Ak (Ab (Ai (Fv Fu)) #[Ax [none,none,some 0] (A3 (Ab FD #[{0}])) (Bs 0 1) AH (Ab Qj #[{1},Ab (Ai Au) #[{2}]])])
def QV:=Aw 1 1 X9
abbrev Ya:MS:=Ak (Ab Qk #[Ab QR #[{0},{1}],Ab (Ai Au) #[{0}]])
def QW:=Aw 2 2 Ya
abbrev QX:MS:=AU (Ab Ds #[{0}])::Am 1 (Ab (Ai Au) #[{0}])::Am 2 (Aa BU (AO #[{-0}]) (Aa Ao (Aa BU {1} (Ab (Ai Au) #[Aa Ah {0} {-0}])) {-1}))::BK (A3 (Ab FD #[{0}])) (Bs 3 4) (Am 5 (Ab JL #[{4},{1}])::Am 2 (Ax [none,none] (Fw #[{2},{5}]) (Bs 0 1) AH (Aa Ao {0} {1})))::Ak {2}
def JQ:=Aw 1 6 QX
abbrev QY:MS:=AU (Ab GU #[{1},Ab (Ai Au) #[BN "Keeper" {0} "now"]])::AU (B5 "Keeper" "change_to" GR {0} #[Ab Ih #[BN "Keeper" {0} "now",AR #[AR #[{1}],AR #[]]]])
def K2:=Aw 2 2 QY
abbrev QZ:MS:=AU (Ab GU #[{1},Ab (Ai Au) #[Aa Ah (BN "Keeper" {0} "now") {-0}]])::AU (B5 "Keeper" "change_to" GR {0} #[Ab Ih #[BN "Keeper" {0} "now",AR #[AR #[],AR #[{1}]]]])
def K3:=Aw 2 2 QZ
abbrev Yb:MS:=Ak (Aa Eg (Ab JP #[{0},{1}]) (mC .non))
def JR:=Aw 2 2 Yb
abbrev Yc:MS:=Am 1 (Ab QK #[{0}])::Am 2 (Ab (Ai Bi) #[Ax [none,none,none] (Dm #[{1}]) (PY 0 1 2) (Aq (Aa Az {1} {-1})) {0}])::Ak (AR #[{2},Ab QW #[{0},{2}]])
def Nn:=Aw 1 3 Yc
abbrev F8:MS:=AC (Aq (Aa Az {1} {"show"})) (Ak (Ab QM #[{0}])) AG::AC (Aq (Aa Az {1} {"lit"})) (Ak (Ab (Ai strOfD) #[Ab QN #[{0}]])) AG::AC (Aq (Aa Az {1} {"left"})) (Ak (Ab (Ai strOfD) #[Ab QV #[{0}]])) AG::AC (Aq (Aa Az {1} {"bound"})) (Ak (Ab (Ai strOfD) #[Ab Nh #[Ab (Ai Au) #[{0}],Ab (Ai Au) #[Aa Ah {0} {-0}]]])) AG::AC (Aq (Aa Az {1} {"fours"})) (Ak (Ab (Ai strOfD) #[Ab (Ai Au) #[Ab QJ #[{0}]]])) AG::AC (Aq (Aa Az {1} {"counts"})) (Ak (Ck Cn Dq {" "} (Ax [none] (A3 (Ab JQ #[{0}])) (AB 0) AH (Ab (Ai strOfD) #[{0}])))) AG::Ak (mC .non)
def Ew:=Aw 2 2 F8
abbrev Np:MS:=AU (Ab GS #[Aa Az (Ab (Ai Au) #[{2}]) (Dg (Aq (Aa Az {1} {"light"})) {-2} {-1})])::AC (Aq (Aa Az {1} {"light"})) (AU (B5 "Keeper" "light" JN (BN "Desk" {0} "kept") #[Aa Ah {2} {-0},Aa Ah {2} {-1}])) (AC (Aq (Aa Az {1} {"row"})) (AU (B5 "Keeper" "row" K2 (BN "Desk" {0} "kept") #[Aa Ah {2} {-0}])) (AU (Ab GS #[Aa Az {1} {"column"}])::AU (B5 "Keeper" "column" K3 (BN "Desk" {0} "kept") #[Aa Ah {2} {-0}])))
def Ij:=Aw 3 3 Np
abbrev Ik:MS:=AC (Aq (Aa Az {0} {"show"})) (Ak (Ab Dr #[{1}])) AG::AC (Aq (Aa Az {0} {"lit"})) (Ak (Ab (Ai strOfD) #[Ab (Ai BS) #[Ax [none] (A3 {1}) (AB 0) AH (Ab (Ai BS) #[{0}])]])) AG::AC (Aq (Aa Az {0} {"left"})) (Ak (Ab (Ai strOfD) #[Ab Qw #[{1}]])) AG::AC (Aq (Aa Az {0} {"bound"})) (Ak (Ab (Ai strOfD) #[Ab Nh #[Ab (Ai Au) #[{1}],Ab (Ai Au) #[Aa Ah {1} {-0}]]])) AG::AC (Aq (Aa Az {0} {"fours"})) (Ak (Ab (Ai strOfD) #[Ab Qt #[{1}]])) AG::Ak (Ck Cn Dq {" "} (Ax [none] (A3 (Ab JQ #[{1}])) (AB 0) AH (Ab (Ai strOfD) #[{0}])))
def FE:=Aw 2 2 Ik
abbrev Nq:MS:=AC (Aq (Aa Az {1} {"road"})) (Ak (Ab Ih #[{0},Ab Nn #[{0}]])) AG::AC (Aq (Aa Az {1} {"form"})) (Ak (Ab QU #[{0}])) AG::AC (Aq (Aa Az {1} {"turn"})) (Ak (Ab Nk #[{0}])) AG::Ak (mC .non)
def Nr:=Aw 2 2 Nq
abbrev Il:MS:=Eh 3 4 #[Ab (Ai Au) #[{2}],Ab (Ai Au) #[Aa Ah {2} {-0}]]::AC (Aq (Aa Az {0} {"light"})) (MX 5 6 {1}::AC (Gr (Aq (Aa Jc {5} {3})) (Aq (Aa Jc {6} {4}))) (Ak (mC .non)) AG::Am 7 (Aa Ao (Aa Ao (F4 (Aa Ah {2} {5}) Ft (EV {6})) (AR #[Aa Cw {-1} (Aa Ah (Aa Ah {2} {5}) {6})])) (F4 (Aa Ah {2} {5}) (EV (Aa Ao {6} {-1})) Ft))::Ak (Aa Ao (Aa Ao (F4 {2} Ft (EV {5})) (AR #[{7}])) (F4 {2} (EV (Aa Ao {5} {-1})) Ft))) AG::AC (Aq (Aa Az {0} {"row"})) (Ak (Dg (Aq (Aa Jc (Aa Ah {1} {-0}) {3})) (mC .non) (Ab Ic #[{2},Ab (Ai Bi) #[{1}],AR #[]]))) AG::AC (Aq (Aa Az {0} {"column"})) (Ak (Dg (Aq (Aa Jc (Aa Ah {1} {-0}) {4})) (mC .non) (Ab Ic #[{2},AR #[],Ab (Ai Bi) #[{1}]]))) AG::AC (Aq (Aa Az {0} {"road"})) (C3 (Bs 8 9) (Ab Nn #[{2}])::Ak (Ab Ic #[{2},{8},{9}])) AG::AC (Aq (Aa Az {0} {"form"})) (Ak (Ab Ie #[{2}])) AG::Ak (Ab (Ai Bi) #[Ax [none,some 2] (BZ #[{4}]) (AB 0) AH (Ab (Ai Bi) #[Ax [none,some 0] (A3 {1}) (AB 0) AH (Aa Ah {0} {1})])])
def CD:=Aw 3 10 Il
abbrev Im:MS:=Am 2 (Ab Ew #[B5 "Keeper" "board" JJ (BN "Desk" {0} "kept") #[],{1}])::AC (Aq (Aa Eg {2} (mC .non))) (Ak {2}) AG::AC (Aq (Aa Az {1} {"undo"})) (AU (B5 "Keeper" "undo" KZ (BN "Desk" {0} "kept") #[])::Ak {"ok"}) AG::Am 3 (Ab Nr #[B5 "Keeper" "board" JJ (BN "Desk" {0} "kept") #[],{1}])::AU (Ab GS #[Aa Eg {3} (mC .non)])::AU (B5 "Keeper" "change_to" GR (BN "Desk" {0} "kept") #[{3}])::Ak {"ok"}
def Nt:=Aw 2 4 Im
abbrev Q0:MS:=Eh 2 3 #[Aa Ah {1} (DT {-1}),Ab Bz #[{0},{-20}]]::AC (Aq (Aa Dh {3} {-3})) (Am 4 (Ab GV #[{0},Aa Ao {-1} (Ab Bz #[{0},{-8}]),Aa Ao {-1} (Ab Bz #[{0},{-8}])])::Ak (AR #[Aa Ao {"board "} (Ab Dr #[{4}]),{"ok"},Aa Ao {1} (AO #[{4}])])) AG::AC (Aq (Aa Az {3} {-3})) (C3 (Bs 5 6) (Ab Nd #[{0},{2}])::Ak (AR #[Aa Ao {"alike "} (Ab Dr #[{5}]),{6},{1}])) AG::AC (Aq (Aa Az {3} {-4})) (Ak (Dg (Aq (Aa Az (Ab (Ai Au) #[{1}]) {-1})) (AR #[{"undo"},{"! row"},{1}]) (AR #[{"undo"},{"ok"},KW {1} Ft (EV (DT {-1}))]))) AG::AC (Aq (Aa Dh {3} {-11})) (Am 7 (Aa Ah (AO #[{"show"},{"lit"},{"left"},{"bound"},{"fours"},{"counts"}]) (Aa Cw {3} {-5}))::Ak (AR #[{7},Ab FE #[{7},{2}],{1}])) AG::Am 7 (Aa Ah (AO #[{"light"},{"light"},{"row"},{"column"},{"road"},{"form"},{"turn"},{"light"},{"row"}]) (Aa Cw {3} {-11}))::Am 8 (MY ["light","row","column"] #[AO #[Ab (Ai Au) #[{2}],Ab (Ai Au) #[Aa Ah {2} {-0}]],AO #[Ab (Ai Au) #[{2}]],AO #[Ab (Ai Au) #[Aa Ah {2} {-0}]]] {7} (AO #[]))::Am 9 (Ax [none,some 0] (A3 {8}) (AB 0) AH (Ab Bz #[{1},Aa Ah (AO #[{0},{0},{0},Aa Ao {0} {-1},{-10}]) (Ab Bz #[{1},{-5}])]))::Am 4 (Ab CD #[{7},{9},{2}])::Am 10 (Ck Cn Dq {" "} (Aa Ao (AO #[{7}]) (Ax [none] (A3 {9}) (AB 0) AH (Ab (Ai strOfD) #[{0}]))))::Ak (Dg (Aq (Aa Hq {4} (mC .non))) (AR #[{10},{"! line"},{1}]) (AR #[{10},{"ok"},Aa Ao {1} (AO #[{4}])]))
def Nu:=Aw 2 11 Q0
abbrev Q1:MS:=AU (Ab GS #[Ab (Bo AZ) #[{1},mC (.ty "str")]])::C3 (En [2,3,4]) (Ck Cn F6 {1} {" "})::AC (Aq (Aa Az {3} {""})) (Ak (B5 "Desk" "say_word" Nt {0} #[{2}])) AG::AC (Aq (Aa Az {2} {"alike"})) (Ak (Dg (B7 (Ab JR #[B5 "Keeper" "board" JJ (BN "Desk" {0} "kept") #[],Ab JO #[{4}]])) {"yes"} {"no"})) AG::AC (Aq (Aa Az {2} {"board"})) (AU (B5 "Keeper" "change_to" GR (BN "Desk" {0} "kept") #[Ab JO #[{4}]])) (AU (B5 "Desk" "do_at" Ij {0} #[{2},Ab M8 #[{4}]]))::Ak {"ok"}
def Cd:=Aw 2 5 Q1
abbrev Q2:MS:=Am 2 {"! other"}::Ia Cd GT::Ak {2}
def CL:=Aw 2 4 Q2
abbrev Q3:MS:=BK (BZ #[Ab (Bo Kv) #[{-1},Ab (Bo FR) #[Ab (Ai Au) #[{0}],{-2}]]]) (AB 1) (Am 2 (Ab K1 #[Ab K0 #[{0},{1}]])::Am 3 (AO #[EW "Desk" Ii #[],EW "Desk" Ii #[]])::Am 4 (AO #[AO #[AR #[AR #[{-0}]]],AO #[AR #[AR #[{-0}]]]])::BK (BZ #[{-16}]) (AB 5) (Am 6 (Ab Bz #[{2},{-2}])::C3 (En [7,8,9]) (Ab Nu #[{2},Aa Ah {4} {6}])::AC (Aq (Aa Dh {5} {-2})) (Am 10 (Ab GV #[{2},Aa Ao {-1} (Ab Bz #[{2},{-8}]),Aa Ao {-1} (Ab Bz #[{2},{-8}])])::Eh 7 8 #[Aa Ao {"board "} (Ab Dr #[{10}]),{"ok"}]::Am 9 (Aa Ao (Aa Ah {4} {6}) (AO #[{10}]))) AG::AC (Aq (Aa Bt (Ab CL #[Aa Ah {3} {6},{7}]) {8})) (Ak (mC (.bl false))) AG::Hu {4} {6} {9}::AC (Aq (Aa Bt (Ab CL #[Aa Ah {3} {-0},{"show"}]) (Ab Dr #[Aa Ah (Aa Ah {4} {-0}) (DT {-1})]))) (Ak (mC (.bl false))) AG::AC (Aq (Aa Bt (Ab CL #[Aa Ah {3} {-1},{"show"}]) (Ab Dr #[Aa Ah (Aa Ah {4} {-1}) (DT {-1})]))) (Ak (mC (.bl false))) AG)::BK (BZ #[{-2}]) (AB 6) (HG (Aq (Aa Gv (Ab (Ai Au) #[Aa Ah {4} {6}]) {-1})) (AU (HY (Aa Ah {4} {6}))::AC (Aq (Aa Bt (Ab CL #[Aa Ah {3} {6},{"undo"}]) {"ok"})) (Ak (mC (.bl false))) AG::AC (Aq (Aa Bt (Ab CL #[Aa Ah {3} {6},{"show"}]) (Ab Dr #[Aa Ah (Aa Ah {4} {6}) (DT {-1})]))) (Ak (mC (.bl false))) AG)::AC (Aq (Aa Bt (Ab CL #[Aa Ah {3} {6},{"undo"}]) {"! row"})) (Ak (mC (.bl false))) AG))::Ak (mC (.bl true))
def F_law:=Aw 1 11 Q3
end
end LK
set_option maxHeartbeats 0
namespace LK
open PySem PySem.Spec PyProof.Rows L2 LS
def _root_.LS.Sm.len {h a:HD} (s:Sm h a):h.length≤a.length:=by
 cases e:h.length with
 |zero=>exact EI _
 |succ n=>
  have b:n<h.length:=by omega
  have:=s n h[n] (Bl b);have:=(qa1.mp this).1;omega
def sz {n:Nat} (h:n≤8):(List.range n).length≤sizeLine:=by rw [J8];unfold sizeLine;omega
open PySem.Builtin.Int in
def mP {n:List Int} {k:Nat} (b:∀i∈n,Builtin.Int.intBits i≤2^20) (hk:k≤1000):∃c:Int,Builtin.Int.intBits c≤2^20∧∀h,Pu (Qq [.scr n,.int (k:Nat)] h) h (.int c):=by
 by_cases a:k<n.length
 ·refine ⟨n[k],b _ (J9 a),fun h=>?_⟩;change Wp (Al 2 Qp [.scr n,.int (k:Nat)] h) _;refine Eq.mpr (An) ?_;have:(k:Int)<n.length:=by omega
  simp [this];refine AN (ip (Bl a)) ?_;simp [Sm.refl]
 ·refine ⟨6151*(k:Int)+29,?_,fun h=>?_⟩
  ·rw [intBits_le_iff];have d:(6151*(k:Int)+29).natAbs<2^30:=by omega
   exact Bn d (E3 (by decide) (by omega))
  ·change Wp (Al 2 Qp [.scr n,.int (k:Nat)] h) _;refine Eq.mpr (An) ?_;have:¬(k:Int)<n.length:=by omega
   simp [this];rw [Jn (by decide) (by decide)];simp [Sm.refl]
noncomputable def Yd (c:Int) (k:Nat):Int:=(((c+1)*40692+104729*(k:Int))*((c+1)*40692+104729*(k:Int))) % 2147483399+(k:Int)
def Ye:Fj [.int 24] h=.ok ((List.range 24).map fun k=>D.int ((k:Nat):Int),[]) h:=Dl (n:=24) (by decide)
def mQ {c:Int} {k:Nat} (d:Builtin.Int.intBits c≤2^20) (hk:k≤1000):∃r:Int,∀h,Pu (Qr [.int c,.int (k:Nat)] h) h (.int r):=by
 refine ⟨Yd c k*(Yd c k+31) % 2147483563,fun h=>?_⟩;change Wp (Al 3 Xs [.int c,.int (k:Nat)] h) _;refine Eq.mpr (An) ?_;have b:Builtin.Int.intBits ((c+1)*40692+104729*(k:Int))≤16777216:=by have a:Builtin.Int.intBits ((k:Nat):Int)≤10:=PySem.intBits_le_iff.mpr (by omega);have:=PySem.intBits_add_le (PySem.intBits_mul_le (PySem.intBits_add_le d (show Builtin.Int.intBits 1≤1 by decide)) (show Builtin.Int.intBits 40692≤16 by decide)) (PySem.intBits_mul_le (show Builtin.Int.intBits 104729≤17 by decide) a);exact BJ this (by decide)
 have e:=Int.emod_nonneg (((c+1)*40692+104729*(k:Int))*((c+1)*40692+104729*(k:Int))) (show (2147483399:Int)≠0 by decide);have f:=Int.emod_lt_of_pos (((c+1)*40692+104729*(k:Int))*((c+1)*40692+104729*(k:Int))) (show (0:Int)<2147483399 by decide);simp;rw [Jm (by decide) (by decide)];simp;rw [Jn (by decide) (by decide)];simp;rw [iw b b];simp;rw [FW (by decide)];simp;rw [Jn (by omega) (by omega)];simp;rw [FW (by decide)];simp;exact ⟨rfl,.refl _⟩
def wd (h:HD) (b:Nat):Prop:=∃n:Int,h[b]?=some (.lst [.int n])
inductive Yf (ns:List Int) (k:Nat) (c:Int) (h:HD) (xs:List Nat) (ρ:Ag) (h':HD):Prop where
 |mk (N:Int) (x:Option D) (f0:ρ=[some (.scr ns),some (.int (k:Nat)),some (.int c),some (.int N),x]) (f1:Sm h h') (f2:∀j∈xs,j<24):Yf ns k c h xs ρ h'
def mR {n:List Int} {k:Nat} {h:HD} {Q:D→HD→Prop} (r:∀i∈n,Builtin.Int.intBits i≤2^20) (hk:k≤1000) (q:∀l a,wd a l→h.length≤l→Sm h a→Q (.loc l) a):Wp (K0 [.scr n,.int (k:Nat)] h) Q:=by
 change Wp (Al 5 (XC) [.scr n,.int (k:Nat)] h) _;refine Eq.mpr (An) ?_;obtain ⟨c,t,u⟩:=mP (k:=k) r hk;simp;refine (u h).wp fun A d=>?_;rw [FW (by decide)];simp
 by_cases g:c % 2=0
 ·simp [g];rw [KA (by decide) (by decide)];simp;exact A4 (by simp) fun l a s e v _=>q l a ⟨_,e⟩ (by have:=d.len;omega) (d.trans s)
 ·simp [g];refine CC (src:=[]) (xs:=List.range 24) (fun i=>.int ((i:Nat):Int)) (Yf n k c h) ?_ (fun B o a _=>Cr) ?_ ?_
  ·simp [Ye];exact ⟨_,_,rfl,d,fun j f=>qb3.mp f⟩
  ·rintro x C o a ⟨N,y,rfl,b,p⟩;refine ⟨_,rfl,?_⟩;obtain ⟨m,w⟩:=mQ (k:=x) t (by have:=p x AX;omega);simp;rw [Jm (by decide) (by decide)];simp;refine (w a).wp fun E z=>?_;simp [B3];exact ⟨_,_,rfl,b.trans z,fun j f=>p j (A2 _ f)⟩
  ·rintro o a ⟨N,y,rfl,b,_⟩;simp;exact A4 (by simp) fun l a s e v _=>q l a ⟨_,e⟩ (by have:=b.len;omega) (b.trans s)
def wk (b:Nat) (h a:HD):Prop:=∀(l:Nat) (c:Cell),l≠b→h[l]?=some c→a[l]?=some c
def wk.refl (b:Nat) (h:HD):wk b h h:=fun _ _ _ e=>e
def wk.trans {b:Nat} (a:wk b h d) (c:wk b d f):wk b h f:=fun l x n e=>c l x n (a l x n e)
def CF {b:Nat} (s:Sm h a):wk b h a:=fun l c _ e=>s l c e
def K4 {b:Nat} {m:Int} {Q:D→HD→Prop} (g:wd h b) (f:0<m) (i:m<18446744073709551616) (q:∀d a,0≤d→d<m→wd a b→wk b h a→Q (.int d) a):Wp (Bz [.loc b,.int m] h) Q:=by change Wp (Al 4 Xu [.loc b,.int m] h) _;refine Eq.mpr (An) ?_;obtain ⟨N,e⟩:=g;simp;rw [show (0:Int)=((0:Nat):Int) from rfl];refine AN (B4 e (k:=0) rfl) ?_;simp;refine AN (ix f i) ?_;simp;rw [show (0:Int)=((0:Nat):Int) from rfl];refine AN (Mo e (by simp)) ?_;simp;have j:b<h.length:=(qa1.mp e).1;refine q _ _ (Int.emod_nonneg _ (by omega)) (Int.emod_lt_of_pos _ f) ⟨_,by rw [BP j]⟩ fun l c ne n=>?_;rw [BI (Ne.symm ne)];exact n
def wd.sm {b:Nat} (x:wd h b) (s:Sm h a):wd a b:=let ⟨n,e⟩:=x;⟨n,s _ _ e⟩
def wd.smx {a b:Nat} (x:wd h b) (s:wk a h c) (ne:b≠a):wd c b:=let ⟨n,e⟩:=x;⟨n,s _ _ ne e⟩
def wd.new {b:Nat} {c:Cell} (x:wd h b):wd (h++[c]) b:=x.sm (.app _ _)
def Plain (h:HD):D→Prop
 |.int _=>True
 |.bl _=>True
 |.non=>True
 |.str _=>True
 |.tup _=>True
 |.edic=>True
 |.loc l=>∃d,h[l]?=some (.lst d)
 |_=>False
def Plain.sm (p:Plain h d) (s:Sm h a):Plain a d:=by
 cases d with
 |loc l=>obtain ⟨b,e⟩:=p;exact ⟨b,s _ _ e⟩
 |_=>exact p
def C7:D→List D
 |.tup d=>d
 |_=>[]
def wG (h:HD) (d:D):Prop:=Plain h d∧∀x∈C7 d,Plain h x
def wI (h:HD) (d:D):Prop:=Plain h d∧∀x∈C7 d,wG h x
def wG.sm (p:wG h d) (s:Sm h a):wG a d:=⟨p.1.sm s,fun x b=>(p.2 x b).sm s⟩
def wI.sm (p:wI h d) (s:Sm h a):wI a d:=⟨p.1.sm s,fun x b=>(p.2 x b).sm s⟩
def K5:D→Bool
 |.int i=>decide (0≤i)&&decide (i≤1)
 |_=>false
def DC:D→Bool
 |.tup d=>decide (1≤d.length)&&decide (d.length≤8)
 |_=>false
def Ey (d:D):Bool:=DC d&&(C7 d).all K5
def GW (d:D):Nat:=(C7 d).length
def GX (d:D):Bool:=DC d&&(C7 d).all Ey&&(C7 d).all fun x=>GW x==GW ((C7 d).getD 0 .non)
def wJ {i a b:Int}:Pu (Ig [.int i,.int a,.int b] h) h (.bl (decide (a≤i)&&decide (i≤b))):=by
 change Wp (Al 3 (Qu) [.int i,.int a,.int b] h) _;refine Eq.mpr (An) ?_;have e:Ib [.int i] h=.ok (.bl true) h:=rfl;simp [e]
 by_cases c:a≤i<;>simp [c,AL,Sm.refl]
def Yg {d:D} {a b:Int} (e:Ib [d] h=.ok (.bl false) h):Pu (Ig [d,.int a,.int b] h) h (.bl false):=by change Wp (Al 3 (Qu) [d,.int a,.int b] h) _;refine Eq.mpr (An) ?_;simp [e,Sm.refl]
def JS:D→Bool
 |.int _=>true
 |_=>false
def Q4 (p:Plain h d):Ib [d] h=.ok (.bl (JS d)) h:=by
 cases d with
 |loc l=>
  obtain ⟨f,e⟩:=p;have g:AZ (.loc l) (.ty "int") h=.ok (.bl false) h:=kd e;have w:Wp (Al 1 Xb [.loc l] h) fun d c=>d=.bl false∧c=h:=by refine Eq.mpr An ?_;simp [-kc,g]
  obtain ⟨a,c,j,rfl,rfl⟩:=Wp.ex w;exact j
 |tup f=>rfl
 |int i=>rfl
 |bl b=>rfl
 |non=>rfl
 |str x=>rfl
 |edic=>rfl
 |_=>exact p.elim
def Q5 (h:JS d=true):∃i,d=.int i:=by cases d<;>first |exact ⟨_,rfl⟩ |cases h
def mS (p:Plain h d):Pu (Qx [d] h) h (.bl (K5 d)):=by
 change Wp (Al 1 (XG) [d] h) _;refine Eq.mpr An ?_;simp;cases a:JS d with
 |true=>obtain ⟨i,rfl⟩:=Q5 a;exact wJ.wp fun b s=>⟨rfl,s⟩
 |false=>
  have e:=Q4 p;rw [a] at e;have c:K5 d=false:=by cases d<;>first |rfl |cases a
  exact (Yg e).wp fun b s=>⟨by rw [c],s⟩
def Nv:D→Bool
 |.tup _=>true
 |_=>false
def Yh (p:Plain h d):AZ d (.ty "tuple") h=.ok (.bl (Nv d)) h:=by
 cases d with
 |loc l=>obtain ⟨a,e⟩:=p;exact ke e
 |tup a=>rfl
 |int i=>rfl
 |bl b=>rfl
 |non=>rfl
 |str x=>rfl
 |edic=>rfl
 |_=>exact p.elim
def Yi (h:Nv d=true):∃a,d=.tup a:=by cases d<;>first |exact ⟨_,rfl⟩ |cases h
def Yj (p:Plain h d):Pu (M0 [d] h) h (.bl (DC d)):=by
 change Wp (Al 1 Xd [d] h) _;refine Eq.mpr An ?_;cases c:Nv d with
 |true=>
  obtain ⟨a,rfl⟩:=Yi c;have f:(1:Int)≤a.length↔1≤a.length:=by omega
  have g:(a.length:Int)≤8↔a.length≤8:=by omega
  by_cases b:1≤a.length
  ·by_cases e:a.length≤8
   ·simp [f.mpr b,g.mpr e,AL,Sm.refl,DC,b,e]
   ·have i:¬(a.length:Int)≤8:=by omega
    simp [f.mpr b,i,AL,Sm.refl,DC,b,e]
  ·have j:¬(1:Int)≤a.length:=by omega
   simp [j,AL,Sm.refl,DC,b]
 |false=>
  have:DC d=false:=by cases d<;>first |rfl |cases c
  simp [Yh p,c,this,Sm.refl]
def Q6 (h:DC d=true):∃a,d=.tup a∧1≤a.length∧a.length≤8:=by
 cases d with
 |tup a=>exact ⟨a,rfl,by simpa [DC] using h⟩
 |_=>cases h
def mT (p:wG h d):Pu (QC [d] h) h (.bl (Ey d)):=by
 change Wp (Al 1 (XM) [d] h) _;refine Eq.mpr (An) ?_;simp;refine (Yj p.1).wp fun g s=>?_;cases a:DC d with
 |false=>simp [Ey,a,s]
 |true=>
  obtain ⟨b,rfl,l,i⟩:=Q6 a;simp;refine Pu.wp (Mp (src:=[]) (xs:=b) (φ:=fun x=>x) K5 (fun x=>[some x]) (by rw [List.map_id'];exact GG) (fun x _=>rfl) (fun x c j e=>?_) (by unfold sizeLine;omega)) fun k f=>?_
  ·simp [Pu];exact mS ((p.2 x c).sm (s.trans e))
  ·simp [Ey,a,C7,s.trans f]
def Yk {d:D} (a:DC d=true):Au d h=.ok (.int (GW d:Nat)) h:=by obtain ⟨b,rfl,_,_⟩:=Q6 a;simp [GW,C7]
def Yl (h:Ey d=true):DC d=true:=by unfold Ey at h;exact (qbJ.mp h).1
def Ym (p:wI h d):Pu (Nf [d] h) h (.bl (GX d)):=by
 change Wp (Al 1 (XQ) [d] h) _;refine Eq.mpr (An) ?_;simp;refine (Yj p.1).wp fun q s=>?_;cases f:DC d with
 |false=>simp [GX,f,s]
 |true=>
  obtain ⟨c,rfl,m,t⟩:=Q6 f;simp;refine Pu.wp (Mp (src:=[]) (xs:=c) (φ:=fun x=>x) Ey (fun x=>[some x]) (by rw [List.map_id'];exact GG) (fun x _=>rfl) (fun x e n i=>?_) (by unfold sizeLine;omega)) fun u j=>?_
  ·simp [Pu];exact mT ((p.2 x e).sm (s.trans i))
  ·cases g:c.all Ey with
   |false=>simp [GX,f,C7,g,s.trans j]
   |true=>
    simp;have l:∀x∈c,Ey x=true:=fun x e=>qaT.mp g x e;obtain ⟨b,rest,rfl⟩:∃b rest,c=b::rest:=by
     cases c with
     |nil=>simp at m
     |cons a r=>exact ⟨a,r,rfl⟩
    refine Pu.wp (Mp (src:=[]) (xs:=b::rest) (φ:=fun x=>x) (fun x=>GW x==GW b) (fun x=>[some x,some (.tup (b::rest))]) (by rw [List.map_id'];exact GG) (fun x _=>rfl) (fun x e n i=>?_) (by unfold sizeLine;omega)) fun v o=>?_
    ·simp [Pu];rw [Yk (Yl (l x e))];simp;rw [show (0:Int)=((0:Nat):Int) from rfl];refine AN (ix_tup (k:=0) rfl) ?_;simp;rw [Yk (Yl (l b AX))];simp [Sm.refl];rw [qb4];simp;omega
    ·have:(b::rest).all Ey=true:=g;simp only [GX,f,C7,this,Bool.true_and];refine ⟨?_,(s.trans j).trans o⟩;simp
def mU (p:wI h d) (a:GX d=true):Pu (Ds [d] h) h .non:=by change Wp (Al 1 (XS) [d] h) _;refine Eq.mpr (An) ?_;simp;refine (Ym p).wp fun b s=>?_;simp [a,s]
def lit (x:Bool):D:=.int (if x then 1 else 0)
def As (w:Nat) (f:Nat→Bool):D:=.tup ((List.range w).map fun j=>lit (f j))
def bD (h w:Nat) (f:BF):D:=.tup ((List.range h).map fun i=>As w (f i))
section
variable {H W:Nat} {h:HD} {f:BF} {r:Nat→Bool}
def mV {x:Bool}:K5 (lit x)=true:=by cases x<;>rfl
def mW:wG h (As W r):=⟨trivial,fun x a=>by simp only [As,C7,qaO] at a;obtain ⟨j,_,rfl⟩:=a;exact trivial⟩
def Yn:wI h (bD H W f):=⟨trivial,fun x a=>by simp only [bD,C7,qaO] at a;obtain ⟨j,_,rfl⟩:=a;exact mW⟩
def Yo {d:List D} (a:1≤d.length) (b:d.length≤8):DC (.tup d)=true:=by simp [DC,a,b]
def mX (b:SZ W):Ey (As W r)=true:=by unfold Ey;rw [CP];refine ⟨Yo (by simp;omega) (by simp;omega),qaT.mpr fun x a=>?_⟩;simp only [As,C7,qaO] at a;obtain ⟨j,_,rfl⟩:=a;exact mV
def Yp:GW (As W r)=W:=by simp [GW,As,C7]
def Yq (c:SZ H) (b:SZ W):GX (bD H W f)=true:=by
 unfold GX;rw [CP,CP];refine ⟨⟨Yo (by simp;omega) (by simp;omega),qaT.mpr fun x a=>?_⟩,qaT.mpr fun x a=>?_⟩
 ·simp only [bD,C7,qaO] at a;obtain ⟨j,_,rfl⟩:=a;exact mX b
 ·simp only [bD,C7,qaO] at a ⊢;obtain ⟨j,_,rfl⟩:=a;have:((List.range H).map fun i=>As W (f i)).getD 0 .non=As W (f 0):=by rw [EG,Cg,D8 (by omega)];rfl
  rw [this,Yp,Yp];simp
def Ez (a:SZ H) (b:SZ W):Pu (Ds [bD H W f] h) h .non:=mU Yn (Yq a b)
end
section
variable {h:HD}
variable {H W:Nat} {f:BF} {r:Nat→Bool}
def B9:Au (bD H W f) h=.ok (.int (H:Nat)) h:=by simp [bD]
def Co:Au (As W r) h=.ok (.int (W:Nat)) h:=by simp [As]
def Io {k:Nat} (hk:k<H):Ah (bD H W f) (.int (k:Nat)) h=.ok (As W (f k)) h:=GF hk
def BO (hk:1≤H):Ah (bD H W f) (.int 0) h=.ok (As W (f 0)) h:=Jk (by omega)
noncomputable def putD (H W:Nat) (f:BF) (A:Nat) (x:D):D:=.tup (((List.range H).map fun i=>As W (f i)).take A++[x]++((List.range H).map fun i=>As W (f i)).drop (A+1))
def NoB (h:HD) (d:D):Prop:=wI h d∧GX d=false
def NoB.sm (n:NoB h d) (s:Sm h a):NoB a d:=⟨n.1.sm s,n.2⟩
end
def Plain.smx {b:Nat} (p:Plain h d) (s:wk b h a) (x:wd a b):Plain a d:=by
 cases d with
 |loc l=>
  obtain ⟨f,e⟩:=p
  by_cases c:l=b
  ·obtain ⟨n,g⟩:=x;exact ⟨_,c ▸ g⟩
  ·exact ⟨f,s _ _ c e⟩
 |_=>exact p
def wG.smx {b:Nat} (p:wG h d) (s:wk b h a) (x:wd a b):wG a d:=⟨p.1.smx s x,fun y c=>(p.2 y c).smx s x⟩
def wI.smx {b:Nat} (p:wI h d) (s:wk b h a) (x:wd a b):wI a d:=⟨p.1.smx s x,fun y c=>(p.2 y c).smx s x⟩
def NoB.smx {b:Nat} (n:NoB h d) (s:wk b h a) (x:wd a b):NoB a d:=⟨n.1.smx s x,n.2⟩
def TabAt (h:HD):Prop:=h[0]?=some .tab
def TabAt.sm (t:TabAt h) (s:Sm h a):TabAt a:=s _ _ t
def TabAt.smx {b:Nat} (t:TabAt h) (s:wk b h a) (c:0<b):TabAt a:=s _ _ (by omega) t
def TabAt.pos {h:HD} (t:TabAt h):0<h.length:=(qa1.mp t).1
def wd.lt {b:Nat} {h:HD} (x:wd h b):b<h.length:=let ⟨_,e⟩:=x;(qa1.mp e).1
@[simp] theorem v9 {c:Ag} {a b:D} {i j:Nat}:En [i,j] (.tup [a,b]) c=some ((c.set i (some a)).set j (some b)):=id rfl
def JT {x y:List D} (a:x.length+y.length≤1000):Ao (.tup x) (.tup y) h=.ok (.tup (x++y)) h:=by simp only [Ao];rw [if_pos (by unfold sizeLine;omega)]
def all_nil {P:D→Prop}:∀d∈([]:List D),P d:=fun d h=>by cases h
def all_cons {P:D→Prop} {a:D} {l:List D} (h:P a) (t:∀d∈l,P d):∀d∈a::l,P d:=fun d b=>by
 rcases qa6.mp b with rfl |b
 ·exact h
 ·exact t d b
def mY (P:D→Prop) {l o:Nat} {a:List D} {h:HD} (e:h[l]?=some (.lst a)) (b:o<a.length) (c:∀d∈a,P d):∃y,Ah (.loc l) (.int (o:Nat)) h=.ok y h∧P y:=
 ⟨a[o],B4 e (Bl b),c _ (J9 b)⟩
def mZ:MF (.tup R) h=BG R h:=rfl
def wk.over {a b:Nat} {h d f:HD} (s:wk b h d) (g:wk a d f) (i:h.length≤a):wk b h f:=fun l c n e=>g l c (by have:=(qa1.mp e).1;omega) (s l c n e)
def wk.put {a b:Nat} {c:Cell} {h d:HD} (s:wk b h d) (f:h.length≤a):wk b h (d.set a c):=fun l x n e=>by rw [BI (by have:=(qa1.mp e).1;omega)];exact s l x n e
def wk.new {b:Nat} {c:Cell} (s:wk b h a):wk b h (a++[c]):=s.trans (CF (.app _ _))
def wk.len {b:Nat} {h a:HD} (s:wk b h a) (f:b<a.length):h.length≤a.length:=by
 cases e:h.length with
 |zero=>exact EI _
 |succ n=>
  have c:n<h.length:=by omega
  by_cases d:n=b
  ·omega
  ·have:=s n h[n] d (Bl c);have:=(qa1.mp this).1;omega
inductive Yr (b:Nat) (h1:HD) (xs:List Nat) (ρ:Ag) (h':HD):Prop where
 |mk (N M:Int) (x:Option D) (f0:ρ=[some (.loc b),some (.int N),some (.int M),x]) (f1:h'=h1):Yr b h1 xs ρ h'
def Ys {b:Nat} {h:HD} {Q:D→HD→Prop} (j:wd h b) (q:∀l a,wd a b→wd a l→l≠b→h.length≤l→wk b h a→Q (.loc l) a):Wp (K1 [.loc b] h) Q:=by
 change Wp (Al 4 (XE) [.loc b] h) _;refine Eq.mpr (An) ?_;simp;refine K4 j (by decide) (by decide) fun d k n o c f=>?_;refine CC (src:=[]) (xs:=List.range 24) (fun i=>.int ((i:Nat):Int)) (Yr b k) ?_ (fun p g a _=>Cr) ?_ ?_
 ·simp [Ye];exact ⟨_,_,_,rfl,rfl⟩
 ·rintro x xs g a ⟨N,M,y,rfl,rfl⟩;refine ⟨_,rfl,?_⟩;simp;rw [Jm (by decide) (by decide)];simp;rw [FW (by decide)];simp;rw [Jm (by decide) (by decide)];simp [B3];exact ⟨_,_,_,rfl,rfl⟩
 ·rintro g a ⟨N,M,y,rfl,rfl⟩;simp;refine A4 (by simp) fun l m s e r _=>?_;exact q l m (c.sm s) ⟨_,e⟩ (by have:=c.lt;omega) (by have:=f.len c.lt;omega) (f.trans (CF s))
def m8 {W:Nat} {r:List (Nat→Bool)} {H:Nat} (e:r.length=H):D.tup (r.map (As W))=bD H W fun i=>r.getD i fun _=>false:=by
 unfold bD
 congr 1
 apply G6
 ·simp [e]
 ·intro i h a;simp at h a;simp [EG,Bl h]
inductive Yt (b H W:Nat) (way dense:Int) (l2 l3:Nat) (h:HD) (xs:List Nat) (ρ:Ag) (h':HD):Prop where
 |mk (x:Option D) (rows:List (Nat→Bool)) (f0:ρ=[some (.loc b),some (.int (H:Nat)),some (.int (W:Nat)),some (.int way),some (.loc l2),some (.int dense),some (.loc l3),x]) (f1:wd h' b) (f2:wd h' l2) (f3:h'[l3]?=some (.lst (rows.map (As W)))) (f4:rows.length+xs.length=H) (f5:wk b h h'):Yt b H W way dense l2 l3 h xs ρ h'
inductive Yu (b W l2 l3:Nat) (rows:List (Nat→Bool)) (h h':HD):Prop where
 |mk (f1:wd h' b) (f2:wd h' l2) (f3:h'[l3]?=some (.lst (rows.map (As W)))) (f4:wk b h h'):Yu b W l2 l3 rows h h'
def Q7 {b H W:Nat} {Q:D→HD→Prop} (s:wd h b) (hh:SZ H) (hw:SZ W) (q:∀f t,wd t b→wk b h t→Q (bD H W f) t):Wp (GV [.loc b,.int (H:Nat),.int (W:Nat)] h) Q:=by
 change Wp (Al 8 (XJ) [.loc b,.int (H:Nat),.int (W:Nat)] h) _;refine Eq.mpr (An) ?_;simp [-Ae];refine K4 s (by decide) (by decide) fun p h1 d0 d1 I M=>?_;simp [-Ae,Ae (g:=AM (Am 4 _) _)];refine Ys I fun u h2 N y2 n2 k2 z2=>?_;have O:h.length≤u:=by have:=M.len I.lt;omega
 refine Eq.mpr (Ae) ?_;simp [-Ae];refine A4 (by simp) fun l B v e3 el3 _=>?_;obtain ⟨j,ed⟩:∃j:Int,Ah (.loc l) (.int p) B=.ok (.int j) B:=by
  obtain ⟨w,rfl⟩:∃w:Nat,p=(w:Int):=⟨p.toNat,by omega⟩
  obtain ⟨y,ey,z,rfl⟩:=mY (fun y=>∃i,y=.int i) (o:=w) e3 (by simp;omega) <| all_cons ⟨_,rfl⟩ <| all_cons ⟨_,rfl⟩ <| all_cons ⟨_,rfl⟩ <| all_cons ⟨_,rfl⟩ <| all_cons ⟨_,rfl⟩ all_nil
  exact ⟨z,ey⟩
 refine AN (ed) ?_;rw [AE];refine Eq.mpr (Ae) ?_;simp [-Ae];refine A4 (by simp) fun A P R e4 el4 _=>?_;have x4:wd P b:=(N.sm v).sm R;have y4:wd P u:=(y2.sm v).sm R;have z4:wk b h P:=((M.trans z2).trans (CF v)).trans (CF R);have S:h.length≤A:=by have:=(M.trans z2).len N.lt;have:=v.len;omega
 have n3:A≠b:=by obtain ⟨n,e⟩:=N.sm v;have:=(qa1.mp e).1;omega
 have n4:A≠u:=by obtain ⟨n,e⟩:=y2.sm v;have:=(qa1.mp e).1;omega
 refine Eq.mpr (Ae) ?_;simp [-Ae];refine CC (src:=[]) (xs:=List.range H) (fun i=>.int ((i:Nat):Int)) (Yt b H W p j u A h) ?_ (fun ys ρ t _=>Cr) ?_ ?_
 ·simp [Dl (show H≤1000 by omega)];exact ⟨_,[],rfl,x4,y4,e4,by simp,z4⟩
 ·rintro x xs ρ t ⟨y,m,rfl,J,y5,C,E,L⟩;refine ⟨_,rfl,?_⟩;simp [Ej C];refine VD (src:=[]) (xs:=List.range W) (fun i=>.int ((i:Nat):Int)) (Yu b W u A m h) (fun _ b=>b=true) (fun i d=>∃r:Bool,d=lit r) (fun i=>[some (.int ((i:Nat):Int)),some (.loc u),some (.int j)]) ?_ (fun _ _=>Cr) (fun h c x=>by obtain ⟨T,U,X,Y⟩:=x;exact ⟨T.new,U.new,Sm.app _ _ _ _ X,Y.new⟩) Lp (sz hw.2) (fun x _=>rfl) ?_ ?_
  ·simp [Dl (show W≤1000 by omega)];exact ⟨J,y5,C,L⟩
  ·intro x s h i;simp;obtain ⟨T,U,X,Y⟩:=i;refine K4 U (by decide) (by decide) fun d h1 d0 d1 I Z=>?_;simp only [AE,Ei,Dk,Pc,B2,Fq,Kz,il];exact ⟨⟨T.smx Z (Ne.symm n2),I,Z _ _ n4 X,Y.over Z O⟩,by cases decide (d<j)<;>simp [lit]⟩
  ·intro h6 g e x6 hr tr;obtain ⟨x61,x62,F,x64⟩:=x6;have hr':∃r:Nat→Bool,∀x∈List.range W,e x=lit (r x):=by refine ⟨fun x=>if h:x∈List.range W then (hr x h (tr x h)).choose else false,fun x s=>?_⟩;simp only [dif_pos s];exact (hr x s (tr x s)).choose_spec
   obtain ⟨r,er⟩:=hr';have ef:(List.range W).filter g=List.range W:=List.filter_eq_self.mpr tr;have em:D.tup (((List.range W).filter g).map e)=As W r:=by rw [ef];unfold As;congr 1;exact Cf er
   rw [em];simp [GE F (show (m.map (As W)).length<sizeLine by simp;unfold sizeLine;omega),B3];have hl3:A<h6.length:=(qa1.mp F).1;refine ⟨_,m++[r],rfl,?_,?_,?_,?_,x64.put S⟩
   ·obtain ⟨n,e⟩:=x61;exact ⟨n,by rw [BI n3];exact e⟩
   ·obtain ⟨n,e⟩:=x62;exact ⟨n,by rw [BI n4];exact e⟩
   ·rw [BP hl3];simp
   ·simp at E ⊢;omega
 ·rintro ρ t ⟨y,m,rfl,J,y5,C,E,L⟩;simp at E;simp
  by_cases B:p=3
  ·simp [B];obtain ⟨G,rest,rfl⟩:∃G rest,m=G::rest:=by
    cases m with
    |nil=>simp at E;omega
    |cons a r=>exact ⟨a,r,rfl⟩
   rw [show (0:Int)=((0:Nat):Int) from rfl];refine AN (B4 C (k:=0) (a:=As W G) rfl) ?_;simp;refine A4 (by simp) fun l5 h5 s5 e6 _ _=>?_;refine AN (Wn) ?_;refine AN (Pv e6 (by omega)) ?_;refine A4 (by simp;unfold sizeLine;omega) fun l6 h6 s6 e7 _ _=>?_;simp [Hz e7];have:D.tup (List.replicate H (As W G))=bD H W fun _=>G:=by
    unfold bD
    congr 1
    apply G6
    ·simp
    ·intro i h1 h2;simp
   rw [this];exact q _ _ ((J.sm s5).sm s6) ((L.trans (CF s5)).trans (CF s6))
  ·simp [B,Hz C];rw [m8 E];exact q _ _ J L
def Q8 {i:Int}:Ib [.int i] h=.ok (.bl true) h:=rfl
def EX (n:Nat):Int→List D→Bool
 |_,[]=>true
 |last,.int i::d=>decide (last<i∧i<(n:Int))&&EX n i d
 |_,_::_=>false
def Ip (n:Nat) (d:D):Bool:=match d with
 |.tup a=>EX n (-1) a
 |_=>false
def m9 {n:Nat} {last:Int} {x:D} (h:JS x=false):EX n last (x::a)=false:=by cases x<;>first |rfl |(cases h)
inductive Yv (ds:List D) (n:Nat) (h:HD) (xs:List D) (ρ:Ag) (h':HD):Prop where
 |mk (last:Int) (x:Option D) (f0:ρ=[some (.tup ds),some (.int (n:Nat)),some (.int last),x]) (f1:h'=h) (f2:EX n last xs=EX n (-1) ds) (f3:∀y∈xs,Plain h y):Yv ds n h xs ρ h'
def ng {d:D} {n:Nat} (p:wG h d):Pu (JK [d,.int (n:Nat)] h) h (.bl (Ip n d)):=by
 change Wp (Al 4 (XA) [d,.int (n:Nat)] h) _;refine Eq.mpr An ?_;cases c:Nv d with
 |true=>
  obtain ⟨g,rfl⟩:=Yi c;simp;refine CC (src:=[]) (xs:=g) (fun x=>x) (Yv g n h) ?_ (fun q j k _=>Cr) ?_ ?_
  ·simp;exact ⟨-1,_,rfl,rfl,rfl,p.2⟩
  ·rintro x xs j k ⟨last,y,rfl,rfl,e,l⟩;refine ⟨_,rfl,?_⟩;have m:=l x AX;cases f:JS x with
   |false=>simp [Q4 m,f,B3,Sm.refl];rw [m9 f] at e;simp [Ip,←e]
   |true=>
    obtain ⟨i,rfl⟩:=Q5 f
    by_cases a:last<i
    ·by_cases b:i<(n:Int)
     ·simp [Q8,a,b,AL,B3];exact ⟨i,_,rfl,rfl,by rw [←e];simp [EX,a,b],fun y o=>l y (A2 _ o)⟩
     ·simp [Q8,a,b,AL,B3,Sm.refl];simp [Ip,←e,EX,a,b]
    ·simp [Q8,a,AL,B3,Sm.refl];simp [Ip,←e,EX,a]
  ·rintro j k ⟨last,y,rfl,rfl,e,_⟩;simp [Sm.refl,Ip,←e,EX]
 |false=>
  have e:Ip n d=false:=by cases d<;>first |rfl |cases c
  simp [Yh p.1,c,e,Sm.refl]
def AV (n:Nat) (p:Nat→Bool):D:=.tup (((List.range n).filter p).map fun i=>.int ((i:Nat):Int))
section
variable {n:Nat} {p:Nat→Bool} {h:HD}
def Yw:∀{a:List Nat} {last:Int},a.Pairwise (·< ·)→(∀k∈a,last<(k:Int)∧k<n)→EX n last (a.map fun i=>.int ((i:Nat):Int))=true
 |[],_,_,_=>rfl
 |k::a,last,b,c=>by rw [List.pairwise_cons] at b;have d:=c k AX;rw [Bk,EX,Yw b.2 fun j e=>⟨Int.ofNat_lt.mpr (b.1 j e),(c j (A2 _ e)).2⟩,decide_eq_true ⟨d.1,Int.ofNat_lt.mpr d.2⟩];rfl
def nh:Ip n (AV n p)=true:=Yw (List.Pairwise.filter _ List.pairwise_lt_range) fun k hk=>⟨by omega,qb3.mp (qbQ.mp hk).1⟩
def ni:wG h (AV n p):=⟨trivial,fun x a=>by obtain ⟨k,_,rfl⟩:=qaO.mp a;exact trivial⟩
def nj {k:Nat} (hk:k<n):((List.range n).filter p).contains k=p k:=by rw [qb4];simp [hk]
def Nw {a:Bool} {k:Nat} (hk:k<n):Fh a (.int (k:Nat)) (AV n p) h=.ok (.bl (if a then !p k else p k)) h:=by unfold AV;rw [iq,nj hk]
end
def D1 (h w:Nat) (p q:Nat→Bool):D:=.tup [AV h p,AV w q]
noncomputable def sw (f:BF) (p q:Nat→Bool) (i j:Nat):Bool:=Bool.xor (f i j) (Bool.xor (p i) (q j))
def p_is_lot {n:Nat} {p:Nat→Bool}:Pu (JK [AV n p,.int (n:Nat)] h) h (.bl true):=nh (n:=n) (p:=p) ▸ ng ni
section
variable {H W n:Nat} {h:HD} {f:BF} {r p q p' q':Nat→Bool}
def nk (a:SZ H) (b:SZ W):Pu (QG [bD H W f,D1 H W p q] h) h (.bl true):=by change Wp (Al 2 (XW) [bD H W f,D1 H W p q] h) _;refine Eq.mpr (An) ?_;simp;refine (Ez a b).wp fun e s=>?_;simp [D1];simp [bD];refine p_is_lot.wp fun g c=>?_;simp;refine AN (Jk (by omega)) ?_;simp [As];refine p_is_lot.wp fun i d=>?_;simp [(s.trans c).trans d]
def nq (a:SZ H) (b:SZ W):Pu (QP [bD H W f,D1 H W p q] h) h .non:=by change Wp (Al 2 (X4) [bD H W f,D1 H W p q] h) _;refine Eq.mpr (An) ?_;simp;refine (nk a b).wp fun c s=>?_;simp [s]
def nr {b:Bool} (a:W≤8):Pu (Qg [As W r,AV W q,.bl b] h) h (As W fun j=>Bool.xor (r j) (Bool.xor b (q j))):=by
 change Wp (Al 3 Xe [As W r,AV W q,.bl b] h) _;refine Eq.mpr (An) ?_;simp;refine Pu.wp (Ek (src:=[]) (xs:=List.range W) (φ:=fun j=>.tup [.int ((j:Nat):Int),lit (r j)]) (fun j=>lit (Bool.xor (r j) (Bool.xor b (q j)))) (fun j=>[some (.int ((j:Nat):Int)),some (lit (r j)),some (AV W q),some (.bl b)]) ?_ (fun x _=>rfl) (fun x c d e=>?_) (sz a)) fun g s=>?_
 ·simp [Bq,As,FX,Sm.refl,A7]
 ·simp [Pu,Nw (show x<W by simpa using c)];cases r x<;>cases b<;>cases q x<;>simp [lit,Sm.refl]
 ·exact ⟨rfl,s⟩
def K6 (a:SZ H) (b:SZ W):Pu (Ih [bD H W f,D1 H W p q] h) h (bD H W (sw f p q)):=by
 change Wp (Al 4 (X5) [bD H W f,D1 H W p q] h) _;refine Eq.mpr (An) ?_;simp;refine (nq a b).wp fun e s=>?_;simp [D1];refine Pu.wp (Ek (src:=[]) (xs:=List.range H) (φ:=fun i=>.tup [.int ((i:Nat):Int),As W (f i)]) (fun i=>As W fun j=>Bool.xor (f i j) (Bool.xor (p i) (q j))) (fun i=>[some (.int ((i:Nat):Int)),some (As W (f i)),some (AV W q),some (AV H p)]) ?_ (fun x _=>rfl) (fun x c g k=>?_) (sz a.2)) fun l d=>?_
 ·simp [Bq,bD,FX,Sm.refl,A7]
 ·simp [Pu,Nw (show x<H by simpa using c)];exact nr b.2
 ·exact ⟨rfl,s.trans d⟩
end
def Yx {b n:Nat} {Q:D→HD→Prop} (f:wd h b) (k:n≤8) (q:∀p a,wd a b→wk b h a→Q (AV n p) a):Wp (JM [.loc b,.int (n:Nat)] h) Q:=by
 change Wp (Al 2 (XF) [.loc b,.int (n:Nat)] h) _;refine Eq.mpr (An) ?_;simp;refine VD (src:=[]) (xs:=List.range n) (fun i=>.int ((i:Nat):Int)) (fun a=>wd a b∧wk b h a) (fun _ _=>True) (fun i d=>d=.int ((i:Nat):Int)) (fun i=>[some (.int ((i:Nat):Int)),some (.loc b)]) ?_ (fun _ _=>Cr) (fun h c x=>⟨x.1.new,x.2.new⟩) Lp (sz k) (fun x _=>rfl) ?_ ?_
 ·simp [Dl (show n≤1000 by omega),f,wk.refl]
 ·intro x f h i;simp;refine K4 i.1 (by decide) (by decide) fun d m o r j s=>?_;simp [j,i.2.trans s]
 ·intro a g e j l _;have:((List.range n).filter g).map e=((List.range n).filter g).map fun i=>D.int ((i:Nat):Int):=Cf fun x f=>l x (qbQ.mp f).1 (qbQ.mp f).2;rw [this];exact q g a j.1 j.2
def F9 {n:Nat} (h:n≤1000):n≤sizeLine:=by unfold sizeLine;omega
def Q9 {a n:Nat} (b:a≤1000) (c:n≤1000):Je [.int (a:Int),.int (n:Int)] h=.ok ((List.range (n - a)).map fun k=>D.int ((a:Int)+((k:Nat):Int)),[]) h:=by
 have:((-(2^62):Int)≤(a:Int)∧(a:Int)<2^62)∧(-(2^62):Int)≤(n:Int)∧(n:Int)<2^62:=by omega
 unfold Je;simp only;rw [if_pos this];have e:((n:Int) - (a:Int)).toNat=n - a:=by omega
 rw [e];simp [Gz]
abbrev JU:=Nat×Nat×Nat×Nat
noncomputable def Du (x:JU):D:=.tup [.int ((x.1:Nat):Int),.int ((x.2.1:Nat):Int),.int ((x.2.2.1:Nat):Int),.int ((x.2.2.2:Nat):Int)]
noncomputable def FG (f:BF) (x:JU):Bool:=Bool.xor (Bool.xor (f x.1 x.2.2.1) (f x.1 x.2.2.2)) (Bool.xor (f x.2.1 x.2.2.1) (f x.2.1 x.2.2.2))
def Yy (H W:Nat) (x:JU):Prop:=x.1<x.2.1∧x.2.1<H∧x.2.2.1<x.2.2.2∧x.2.2.2<W
def AF (H W:Nat):List JU:=(List.range H).flatMap fun a=>(List.range (H - (a+1))).flatMap fun b=>(List.range W).flatMap fun c=>(List.range (W - (c+1))).map fun e=>(a,a+1+b,c,c+1+e)
def nt {H W:Nat} {x:JU} (h:x∈AF H W):Yy H W x:=by unfold AF at h;simp only [List.mem_flatMap,qaO,qb3] at h;obtain ⟨a,d,b,f,c,g,e,i,rfl⟩:=h;exact ⟨by simp only;omega,by simp only;omega,by simp only;omega,by simp only;omega⟩
def Ra {H W:Nat} (h:H≤8) (a:W≤8):(AF H W).length≤1000:=by
 have k:∀H<9,∀W<9,(AF H W).length≤1000:=by decide +kernel
 exact k H (by omega) W (by omega)
def Yz {a n:Nat} (b:a≤1000) (c:n≤1000):Je [.int (a:Int),.int (n:Int)] h=.ok ((List.range (n - a)).map fun k=>D.int ((a+k:Nat):Int),[]) h:=Q9 b c
section
variable {H W:Nat} {h:HD} {f:BF}
def nu {Q:D→HD→Prop} (j:SZ H) (p:SZ W) (q:∀l d,Sm h d→d[l]?=some (.lst ((AF H W).map Du))→Q (.loc l) d):Wp (Qh [bD H W f] h) Q:=by
 change Wp (Al 3 Xf [bD H W f] h) _;refine Eq.mpr An ?_;simp [B9,BO j.1,Co];have r:=Ra j.2 p.2;have em:(List.range H).flatMap (fun a=>(List.range (H - (a+1))).flatMap fun b=>(List.range W).flatMap fun c=>(List.range (W - (c+1))).map fun e=>Du (a,a+1+b,c,c+1+e))=(AF H W).map Du:=by unfold AF;simp only [List.map_flatMap,BQ];rfl
 refine kO (src:=[]) (xs:=List.range H) (φ:=fun a=>.int ((a:Nat):Int)) (fun _=>true) (fun a=>(List.range (H - (a+1))).flatMap fun b=>(List.range W).flatMap fun c=>(List.range (W - (c+1))).map fun e=>Du (a,a+1+b,c,c+1+e)) (fun a=>[some (.int ((a:Nat):Int)),none,none,none,some (.int (H:Nat)),some (.int (W:Nat))]) ?_ (fun x _=>rfl) (fun x _ d s=>(.ok:Pu (.ok true d) d true)) (fun a k _ u i A z=>?_) ?_ fun l d s m=>?_
 ·simp [Bq,Dl (show H≤1000 by omega),Sm.refl,A7]
 ·have k:=qb3.mp k;have:=P6 (t:=AH) (src:=[]) (xs:=List.range (H - (a+1))) (φ:=fun b=>.int ((a+1+b:Nat):Int)) (it:=Fm (Ac (Aa Ao (Ad 0) (mC (.int 1))) (Ac (Ad 4) (Af)))) (sg:=AB 1) (e:=Ep (BZ (Ac (Ad 5) (Af))) (AB 2) (AH) (Ep (Fm (Ac (Aa Ao (Ad 2) (mC (.int 1))) (Ac (Ad 5) (Af)))) (AB 3) (AH) (FA (AR (Ac (Ad 0) (Ac (Ad 1) (Ac (Ad 2) (Ac (Ad 3) (Af))))))))) (acc:=i) (ρ:=[some (.int ((a:Nat):Int)),none,none,none,some (.int (H:Nat)),some (.int (W:Nat))]) (h:=u)
   (fun _=>true) (fun b=>(List.range W).flatMap fun c=>(List.range (W - (c+1))).map fun e=>Du (a,a+1+b,c,c+1+e)) (fun b=>[some (.int ((a:Nat):Int)),some (.int ((a+1+b:Nat):Int)),none,none,some (.int (H:Nat)),some (.int (W:Nat))]) ?_ (fun x _=>rfl) (fun x _ d s=>(.ok:Pu (.ok true d) d true)) (fun b B _ v g C w=>?_) (by rw [B8];exact z)
  ·rwa [B8] at this
  ·simp [Bq];rw [show (a:Int)+1=((a+1:Nat):Int) by omega,Yz (by omega) (by omega)];simp [Sm.refl,A7]
  ·have:=P6 (t:=AH) (src:=[]) (xs:=List.range W) (φ:=fun c=>.int ((c:Nat):Int)) (it:=BZ (Ac (Ad 5) (Af))) (sg:=AB 2) (e:=Ep (Fm (Ac (Aa Ao (Ad 2) (mC (.int 1))) (Ac (Ad 5) (Af)))) (AB 3) (AH) (FA (AR (Ac (Ad 0) (Ac (Ad 1) (Ac (Ad 2) (Ac (Ad 3) (Af)))))))) (acc:=g) (ρ:=[some (.int ((a:Nat):Int)),some (.int ((a+1+b:Nat):Int)),none,none,some (.int (H:Nat)),some (.int (W:Nat))]) (h:=v)
    (fun _=>true) (fun c=>(List.range (W - (c+1))).map fun e=>Du (a,a+1+b,c,c+1+e)) (fun c=>[some (.int ((a:Nat):Int)),some (.int ((a+1+b:Nat):Int)),some (.int ((c:Nat):Int)),none,some (.int (H:Nat)),some (.int (W:Nat))]) ?_ (fun x _=>rfl) (fun x _ d s=>(.ok:Pu (.ok true d) d true)) (fun c n _ E o F y=>?_) (by rw [B8];exact w)
   ·rwa [B8] at this
   ·simp [Bq,Dl (show W≤1000 by omega),Sm.refl,A7]
   ·have n:=qb3.mp n;refine kN (src:=[]) (xs:=List.range (W - (c+1))) (φ:=fun e=>.int ((c+1+e:Nat):Int)) _ (fun e=>[some (.int ((a:Nat):Int)),some (.int ((a+1+b:Nat):Int)),some (.int ((c:Nat):Int)),some (.int ((c+1+e:Nat):Int)),some (.int (H:Nat)),some (.int (W:Nat))]) ?_ (fun x _=>rfl) (fun e _ G I=>?_) y
    ·simp [Bq];rw [show (c:Int)+1=((c+1:Nat):Int) by omega,Yz (by omega) (by omega)];simp [Sm.refl,A7]
    ·simp [Pu,Du,Sm.refl]
 ·rw [B8,em,Ci];exact F9 r
 ·rw [B8,em] at m;exact q l d s m
def Rb {W:Nat} {r:Nat→Bool} {c:Nat} (a:c<W):Ah (As W r) (.int (c:Nat)) h=.ok (lit (r c)) h:=GF a
def nv {a b c d:Bool}:(((if a then (1:Int) else 0)+(if b then 1 else 0)+(if c then 1 else 0)+(if d then 1 else 0)) % 2==1)=Bool.xor (Bool.xor a b) (Bool.xor c d):=by cases a<;>cases b<;>cases c<;>cases d<;>rfl
def ny {x:JU} (ok:Yy H W x):Pu (Qi [bD H W f,Du x] h) h (.bl (FG f x)):=by obtain ⟨a,b,c,e⟩:=x;obtain ⟨i,d,j,g⟩:=ok;simp only at i d j g;change Wp (Al 6 Xg [bD H W f,Du (a,b,c,e)] h) _;refine Eq.mpr An ?_;unfold Du;simp [Io (show a<H by omega),Io d,Rb (show c<W by omega),Rb g];refine AN (show Ao (lit (f a c)) (lit (f a e)) h=.ok (.int ((if f a c then 1 else 0)+(if f a e then 1 else 0))) h from rfl) ?_;rw [AE];refine AN (show Ao (.int ((if f a c then 1 else 0)+(if f a e then 1 else 0))) (lit (f b c)) h=.ok (.int ((if f a c then 1 else 0)+(if f a e then 1 else 0)+(if f b c then 1 else 0))) h from rfl) ?_;rw [AE];refine AN (show Ao (.int ((if f a c then 1 else 0)+(if f a e then 1 else 0)+(if f b c then 1 else 0))) (lit (f b e)) h=.ok (.int ((if f a c then 1 else 0)+(if f a e then 1 else 0)+(if f b c then 1 else 0)+(if f b e then 1 else 0))) h from rfl) ?_;rw [AE];refine AN (FW (by decide)) ?_;rw [AE];refine AN ka ?_;rw [AE,nv];exact ⟨rfl,.refl _⟩
end
section
variable {H W:Nat} {h:HD} {f:BF}
def nz {Q:D→HD→Prop} (b:SZ H) (c:SZ W) (q:∀l a,Sm h a→a[l]?=some (.lst (((AF H W).filter (FG f)).map Du))→Q (.loc l) a):Wp (QJ [bD H W f] h) Q:=by
 change Wp (Al 1 (XZ) [bD H W f] h) _;refine Eq.mpr An ?_;simp;refine (Ez b c).wp fun i m=>?_;obtain ⟨d,w,n,l,rfl,o,j⟩:=(nu (f:=f) (h:=i) (Q:=fun d a=>∃l,d=.loc l∧Sm i a∧a[l]?=some (.lst ((AF H W).map Du))) b c fun l a s e=>⟨l,rfl,s,e⟩).ex;refine CV (src:=[(l,(AF H W).map Du)]) (xs:=AF H W) (φ:=Du) (FG f) Du (fun x=>[some (Du x),some (bD H W f)]) ?_ (F9 (Ra b.2 c.2)) (fun x _=>rfl) (fun x k a g=>?_) (fun x k _ a g=>?_) fun p r t u=>?_
 ·simp;refine AN n ?_;rw [AE,Fx j];exact ⟨rfl,o,fun a g=>Di (g _ _ j)⟩
 ·simp [Pu];refine (ny (nt k)).wp fun y v=>?_;simp [v]
 ·simp [Pu,Sm.refl]
 ·exact q p r (m.trans t) u
end
section
variable {H W H' W':Nat} {f f':BF} {h:HD} {r:Nat→Bool}
def Rc (a:1≤W):Ah (As W r) (.int 0) h=.ok (lit (r 0)) h:=Jk (by omega)
def Nx {a b:Bool}:Bt (lit a) (lit b) h=.ok (.bl (Bool.xor a b)) h:=by cases a<;>cases b<;>rfl
def nA {a b:Bool}:Bt (.bl a) (.bl b) h=.ok (.bl (Bool.xor a b)) h:=by cases a<;>cases b<;>rfl
def YA (c:SZ H) (g:SZ W) (a:1≤H'∧H'≤8) (b:1≤W'∧W'≤8):Pu (QH [bD H W f,bD H' W' f'] h) h (.bl (decide (H=H')&&decide (W=W'))):=by
 change Wp (Al 2 (XY) [bD H W f,bD H' W' f'] h) _;refine Eq.mpr (An) ?_;simp;refine (Ez c g).wp fun i s=>?_;refine (Ez a b).wp fun j d=>?_;simp [B9]
 by_cases e:H=H'
 ·subst e;simp [BO c.1,Co,s.trans d];rw [qb4];simp;omega
 ·have:((H:Int)==(H':Int))=false:=by simpa using fun z=>e (by omega)
  simp [this,e,s.trans d]
def JV (f f':BF):Nat→Bool:=fun j=>Bool.xor (f 0 j) (f' 0 j)
noncomputable def JW (f f':BF):Nat→Bool:=fun i=>Bool.xor (Bool.xor (f i 0) (f' i 0)) (Bool.xor (f 0 0) (f' 0 0))
def K7 (H W:Nat) (f f':BF) (b:Bool):D:=if b then D1 H W (JW f f') (JV f f') else .non
def nB {b:Bool} (a:SZ H) (d:SZ W) (k:∀h,Bt (bD H W (sw f (JW f f') (JV f f'))) (bD H W f') h=.ok (.bl (!b)) h):Pu (JP [bD H W f,bD H W f'] h) h (K7 H W f f' b):=by
 change Wp (Al 5 (QT) [bD H W f,bD H W f'] h) _;refine Eq.mpr (An) ?_;simp [-Ae];refine (YA a d a d).wp fun u l=>?_;simp [-Ae];refine Eq.mpr (Ae) ?_;refine Eq.mpr (Ba) ?_;refine Eq.mpr (Cj) ?_;refine Pu.wp (Hw (src:=[]) (xs:=List.range W) (φ:=fun j=>.int ((j:Nat):Int)) (JV f f') (fun j=>.int ((j:Nat):Int)) (fun j=>[some (.int ((j:Nat):Int)),some (bD H W f),some (bD H W f')]) ?_ (sz d.2) (fun x _=>rfl) (fun x e g s=>?_) (fun x e _ g s=>?_)) fun v m=>?_
 ·simp [BO a.1,Co];refine AN (Dl (by omega)) ?_;simp [Sm.refl,A7]
 ·have c:x<W:=by simpa using e
  simp [Pu,BO a.1,Rb c,Nx];exact ⟨rfl,.refl _⟩
 ·simp [Pu,Sm.refl]
 refine Eq.mpr (Ae) ?_;refine Eq.mpr (Ba) ?_;refine Eq.mpr (Cj) ?_;simp [-Ae,BO a.1,Rc d.1,Nx];refine Eq.mpr (Ae) ?_;refine Eq.mpr (Ba) ?_;refine Eq.mpr (Cj) ?_;refine Pu.wp (Hw (src:=[]) (xs:=List.range H) (φ:=fun j=>.int ((j:Nat):Int)) (JW f f') (fun j=>.int ((j:Nat):Int)) (fun j=>[some (.int ((j:Nat):Int)),some (bD H W f),some (bD H W f'),some (.bl (Bool.xor (f 0 0) (f' 0 0)))]) ?_ (sz a.2) (fun x _=>rfl) (fun x e g s=>?_) (fun x e _ g s=>?_)) fun w n=>?_
 ·simp [B9];refine AN (Dl (by omega)) ?_;simp [Sm.refl,A7]
 ·have c:x<H:=by simpa using e
  simp only [Pu,Vz,Fq,Ei,Dk,Jj,Io c,Rc d.1,AE,Nx,nA];exact ⟨rfl,.refl _⟩
 ·simp [Pu,Sm.refl]
 refine Eq.mpr (Ae) ?_;simp [-Ae];refine (K6 (p:=JW f f') (q:=JV f f') a d).wp fun o t=>?_;have i:=k o;rw [i];have S:=((l.trans m).trans n).trans t;cases b with
 |false=>simp [K7,S]
 |true=>simp [-Ae];refine Eq.mpr (Ae) ?_;simp [K7,S];rfl
end
def YB {d a r:D} {b:Bool} {h:HD} (c:∀h,Pu (JP [d,a] h) h r) (e:∀h,Eg r .non h=.ok (.bl b) h):Pu (JR [d,a] h) h (.bl b):=by change Wp (Al 2 (Yb) [d,a] h) _;refine Eq.mpr (An) ?_;simp;refine (c h).wp fun f s=>?_;simp [e,s]
noncomputable def FH (f:BF):BF:=fun i j=>Bool.xor (f i j) (Bool.xor (Bool.xor (f i 0) (f 0 0)) (f 0 j))
section
variable {H W:Nat} {f:BF} {h:HD}
def nD (a:SZ H) (b:SZ W):Pu (QU [bD H W f] h) h (bD H W (FH f)):=by
 change Wp (Al 3 (X8) [bD H W f] h) _;refine Eq.mpr (An) ?_;simp [-Ae];refine (Ez a b).wp fun m e=>?_;refine Eq.mpr (Ae) ?_;refine Eq.mpr (Ba) ?_;refine Eq.mpr (Cj) ?_;refine Pu.wp (Hw (src:=[]) (xs:=List.range W) (φ:=fun j=>.tup [.int ((j:Nat):Int),lit (f 0 j)]) (fun j=>f 0 j) (fun j=>.int ((j:Nat):Int)) (fun j=>[some (.int ((j:Nat):Int)),some (lit (f 0 j))]) ?_ (sz b.2) (fun x _=>rfl) (fun x c d s=>?_) (fun x c _ d s=>?_)) fun n g=>?_
 ·simp [BO a.1];simp [As,FX,Sm.refl,A7]
 ·simp [Pu];cases f 0 x<;>simp [lit,Sm.refl]
 ·simp [Pu,Sm.refl]
 refine Eq.mpr (Ae) ?_;refine Eq.mpr (Ba) ?_;refine Eq.mpr (Cj) ?_;refine Pu.wp (Hw (src:=[]) (xs:=List.range H) (φ:=fun i=>.tup [.int ((i:Nat):Int),As W (f i)]) (fun i=>Bool.xor (f i 0) (f 0 0)) (fun j=>.int ((j:Nat):Int)) (fun i=>[some (.int ((i:Nat):Int)),some (As W (f i)),some (bD H W f)]) ?_ (sz a.2) (fun x _=>rfl) (fun x c d s=>?_) (fun x c _ d s=>?_)) fun o k=>?_
 ·simp [bD,FX,Sm.refl,A7]
 ·simp [Pu,BO a.1];unfold As;refine AN (Jk (by omega)) ?_;simp;refine AN (Jk (by omega)) ?_;simp;cases f x 0<;>cases f 0 0<;>simp [lit,Sm.refl]
 ·simp [Pu,Sm.refl]
 refine Eq.mpr (Ae) ?_;simp;refine (K6 (p:=fun i=>Bool.xor (f i 0) (f 0 0)) (q:=fun j=>f 0 j) a b).wp fun r l=>?_;exact ⟨rfl,((e.trans g).trans k).trans l⟩
end
def D2 {n k x:Nat} {xs:List Nat} (h:(List.range n).drop k=x::xs):x=k∧k<n∧xs=(List.range n).drop (k+1):=by
 have hk:k<n:=by have:=congrArg List.length h;simp at this;omega
 rw [G3 (by simpa using hk)] at h;simp at h;exact ⟨h.1.symm,hk,h.2.symm⟩
def EA {n k:Nat} (hk:k≤n) (h:(List.range n).drop k=[]):k=n:=by have:=congrArg List.length h;simp at this;omega
def Re {n:Nat} (h:n≤1000):n≤sizeLine:=by unfold sizeLine;omega
def nE {n:Nat} {R:Nat→Bool}:AV (n+1) (ext n R)=.tup (((List.range n).filter R).map (fun i=>D.int ((i:Nat):Int))++[.int ((n:Nat):Int)]):=by
 unfold AV;rw [Cp,List.filter_append];have e:(List.range n).filter (ext n R)=(List.range n).filter R:=List.filter_congr fun i h=>by
  have:i<n:=by simpa using h
  simp [ext,show i≠n by omega]
 have a:[n].filter (ext n R)=[n]:=by simp [ext]
 rw [e,a];simp
def nF {n:Nat} {R:Nat→Bool} (h:R n=false):AV (n+1) R=AV n R:=by unfold AV;rw [Cp,List.filter_append];simp [h]
noncomputable def Rf (c:Str):List V:=[.bl (B6 c "NoBoard"),.bl (B6 c "NoLine"),.bl (B6 c "NoSwitching"),.bl (B6 c "NoNumber"),.bl (B6 c "Unlike"),.bl (B6 c "NoNet"),.bl (B6 c "NoPlace"),.bl (B6 c "NoText"),.bl (B6 c "NoRow"),.bl (B6 c "TooMany")]
noncomputable def nG:List D:=[.str "board",.str "line",.str "switching",.str "number",.str "unlike",.str "net",.str "place",.str "text",.str "row"]
def YC {c w t:Str} {j:Nat} (a:c∈wo) (f:Jv (.bl true) (Rf c)=1) (g:B6 c "TooMany"=false) (i:Mz (.bl true) (Rf c)=some j) (l:nG[j]?=some (.str w)) (m:((("! ":String):Str)).length+w.length≤1000) (n:((("! ":String):Str))++w=t):Pu (GT [.exc c []] h) h (.str t):=by have o:∀h,AZ (.exc c []) (.glo "NoBoard") h=.ok (.bl (B6 c "NoBoard")) h:=fun h=>Fz a (by decide +kernel);have p:∀h,AZ (.exc c []) (.glo "NoLine") h=.ok (.bl (B6 c "NoLine")) h:=fun h=>Fz a (by decide +kernel);have q:∀h,AZ (.exc c []) (.glo "NoSwitching") h=.ok (.bl (B6 c "NoSwitching")) h:=fun h=>Fz a (by decide +kernel);have r:∀h,AZ (.exc c []) (.glo "NoNumber") h=.ok (.bl (B6 c "NoNumber")) h:=fun h=>Fz a (by decide +kernel);have u:∀h,AZ (.exc c []) (.glo "Unlike") h=.ok (.bl (B6 c "Unlike")) h:=fun h=>Fz a (by decide +kernel);have v:∀h,AZ (.exc c []) (.glo "NoNet") h=.ok (.bl (B6 c "NoNet")) h:=fun h=>Fz a (by decide +kernel);have x:∀h,AZ (.exc c []) (.glo "NoPlace") h=.ok (.bl (B6 c "NoPlace")) h:=fun h=>Fz a (by decide +kernel);have y:∀h,AZ (.exc c []) (.glo "NoText") h=.ok (.bl (B6 c "NoText")) h:=fun h=>Fz a (by decide +kernel);have z:∀h,AZ (.exc c []) (.glo "NoRow") h=.ok (.bl (B6 c "NoRow")) h:=fun h=>Fz a (by decide +kernel);have A:∀h,AZ (.exc c []) (.glo "TooMany") h=.ok (.bl (B6 c "TooMany")) h:=fun h=>Fz a (by decide +kernel);have B:∀h,AZ (.exc c []) (.ty "ValueError") h=.ok (.bl true) h:=fun h=>kf a;change Wp (Al 3 Xv [.exc c []] h) _;refine Eq.mpr An ?_;simp [-Ae,o,p,q,r];refine A4 (by simp) fun M N C E _ _=>?_;refine Eq.mpr Ae ?_;simp [-Ae,u,v,x,y];refine A4 (by simp) fun O P b F _ _=>?_;refine AN (MD (b _ _ E) F) ?_;refine A4 (by simp) fun Q R G H _ _=>?_;refine Eq.mpr Ae ?_;simp [-Ae,z,A];refine A4 (by simp) fun S T d I _ _=>?_;refine AN (MD (d _ _ H) I) ?_;refine A4 (by simp) fun U W J e _ _=>?_;refine Eq.mpr Ae ?_;simp [-Ae,B,Ej e];refine AN ((kh (vs:=Rf c) e rfl rfl).trans (by rw [f])) ?_;simp [-Ae];refine Eq.mpr Ae ?_;simp [-Ae];rw [show (9:Int)=((9:Nat):Int) from rfl];refine AN (B4 e (k:=9) rfl) ?_;simp [-Ae,g];refine Eq.mpr Ae ?_;simp [-Ae];refine A4 (by simp) fun X Y s L _ _=>?_;refine Eq.mpr Ae ?_;simp [Ej (s _ _ e)];refine AN (ki (s _ _ e) rfl rfl i) ?_;simp only [AE];refine AN (B4 L l) ?_;simp only [AE];refine AN (kg m) ?_;exact ⟨congrArg D.str n,((((C.trans b).trans G).trans d).trans J).trans s⟩
section
variable {H W n:Nat} {f:BF} {r p q:Nat→Bool} {h:HD}
def JX (b:Bool):Nat:=if b then 35 else 46
def C8 (W:Nat) (r:Nat→Bool):List Nat:=(List.range W).map fun j=>JX (r j)
def Cy (H W:Nat) (f:BF):List Nat:=By [47] ((List.range H).map fun i=>C8 W (f i))
def Ct {n:Nat} (h:n≤1000):n≤sizeLine:=by unfold sizeLine;omega
def Ny:(C8 W r).length=W:=by simp [C8]
def JY (a:H≤8) (b:W≤8):(Cy H W f).length≤100:=by
 have:=WQ [47] 8 ((List.range H).map fun i=>C8 W (f i)) fun x c=>by obtain ⟨i,_,rfl⟩:=qaO.mp c;rw [Ny];exact b
 rw [Ci,J8] at this;unfold Cy;have d:H*(8 + [47].length)≤8*9:=Lx a (by decide);omega
def nH {b:Bool}:GN (.str ".#") (lit b) h=.ok (.str (tx [JX b])) h:=by
 cases b
 ·exact WU (l:=[46,35]) (k:=0) (by decide) rfl
 ·exact WU (l:=[46,35]) (k:=1) (by decide) rfl
def nI (l:List Nat) {d:Type} (g:d→Nat) (c:List d) (e:l=c.map g):By [] (c.map fun x=>[g x])=l:=by
 subst e;have k:∀c:List d,(c.map fun x=>[g x]).flatMap (fun y=>([]:List Nat)++y)=c.map g:=fun c=>by
  induction c with
  |nil=>rfl
  |cons b c i=>rw [Bk,IK,i];rfl
 cases c with
 |nil=>rfl
 |cons a c=>rw [Bk,By,k];rfl
def p_row_text:Pu (JF [] [none] (A3 (Ad 0)) (AB 0) (Aa GN (mC (.str ".#")) (Ad 0)) [some (As W r)] h) h (.str (tx (C8 W r)))∨8<W:=by
 by_cases a:W≤8
 ·refine .inl ?_;have:=MV (sep:=[]) (xs:=List.range W) (φ:=fun j=>lit (r j)) (ρ:=[some (As W r)]) (h:=h) (cs:=[none]) (it:=A3 (Ad 0)) (sg:=AB 0) (f:=Aa GN (mC (.str ".#")) (Ad 0)) (src:=[]) (fun j=>[JX (r j)]) (fun j=>[some (lit (r j))]) 1 GG (fun x _=>rfl) (fun x _ b _=>by simp [Pu];rw [nH];exact ⟨rfl,.refl _⟩) (sz a) (fun x _=>by simp) (Ct (by simp;omega))
  rw [nI (C8 W r) (fun j=>JX (r j)) _ rfl] at this;exact this
 ·right;omega
def nJ (b:SZ H) (c:SZ W):Pu (QM [bD H W f] h) h (.str (tx (Cy H W f))):=by
 change Wp (Al 1 QL [bD H W f] h) _;refine Eq.mpr An ?_;simp only [QL,Ba,O9,CJ,BM,Dk,B2];refine (Ez b c).wp fun e s=>?_;refine Eq.mpr Ae ?_;rw [Hv];refine Pu.wp (a:=.str (tx (Cy H W f))) ?_ fun g d=>⟨rfl,s.trans d⟩
 refine MV (sep:=[47]) (xs:=List.range H) (φ:=fun i=>As W (f i)) (src:=[]) (fun i=>C8 W (f i)) (fun i=>[some (As W (f i))]) 8 GG (fun x _=>rfl) (fun x _ j _=>?_) (sz b.2) (fun x _=>by rw [Ny];exact c.2) (Ct (by simp;omega));exact p_row_text.resolve_right (by omega)
def nK {l s:List Nat} (a:l.length≤1000):Pu (M5 [.str (tx l),.str (tx s)] h) h (.tup (l.map fun c=>.int (JE c s))):=by
 change Wp (Al 2 Qn [.str (tx l),.str (tx s)] h) _;refine Eq.mpr An ?_;simp only [Qn,Hv,ir];refine Pu.wp (Ek (src:=[]) (xs:=l) (φ:=fun c=>.str (tx [c])) (fun c=>.int (JE c s)) (fun c=>[some (.str (tx [c])),some (.str (tx s))]) (lW (i:=0) rfl) (fun x _=>rfl) (fun x _ d _=>?_) (Ct a)) fun e b=>⟨rfl,b⟩
 simp [Pu];rw [lY];exact ⟨rfl,.refl _⟩
def p_need_text:Pu (Qo [.str x] h) h .non:=by change Wp (Al 1 Xq [.str x] h) _;refine Eq.mpr An ?_;have e:AZ (.str x) (.ty "str") h=.ok (.bl true) h:=rfl;simp [e,Sm.refl]
def Rg:∀(b:List (List Nat)) (x:List Nat),(∀c∈x,c≠47)→(∀y∈b,∀c∈y,c≠47)→Bf 47 (x++b.flatMap fun y=>[47]++y)=x::b
 |b,a::x,e,d=>by have i:=Rg b x (fun c g=>e c (A2 _ g)) d;rw [List.cons_append,Bf,if_neg (e a AX),i]
 |[],[],_,_=>rfl
 |y::b,[],_,d=>by have i:=Rg b y (d y AX) fun z j=>d z (A2 _ j);rw [IK,G7,J7,List.singleton_append,Bf,if_pos rfl,i]
def nL {b:Bool}:JX b≠47:=by cases b<;>decide
def YD:∀c∈C8 W r,c≠47:=fun c a=>by obtain ⟨j,_,rfl⟩:=qaO.mp a;exact nL
def nM (b:1≤H):Bf 47 (Cy H W f)=(List.range H).map fun i=>C8 W (f i):=by
 unfold Cy;obtain ⟨k,rfl⟩:∃k,H=k+1:=⟨H - 1,by omega⟩
 rw [List.range_succ_eq_map,Bk,By];refine Rg _ _ YD fun y a=>?_;obtain ⟨i,_,rfl⟩:=qaO.mp a;exact YD
def nN {b:Bool}:D.int (JE (JX b) [46,35])=lit b:=by cases b<;>rfl
def YE (b:SZ H) (e:SZ W):Pu (JO [.str (tx (Cy H W f))] h) h (bD H W f):=by
 change Wp (Al 2 Ni [.str (tx (Cy H W f))] h) _;refine Eq.mpr An ?_;change Wp (Ni [some (.str (tx (Cy H W f))),none] h) _;simp only [Ni,Ba,O9,CJ,BM,Dk,B2];refine p_need_text.wp fun a g=>?_;refine Eq.mpr Ae ?_;rw [Ba,Cj];have m:Pu (Jl [none] (A3 (Ck Cn DZ (Ad 0) (mC (.str "/")))) (AB 0) AH (Ab M5 (Ac (Ad 0) (Ac (mC (.str ".#")) Af))) [some (.str (tx (Cy H W f))),none] a) a (bD H W f):=by
  have c:=Ct (BJ (JY (f:=f) b.2 e.2) (by decide:100≤1000));obtain ⟨L,u⟩:∃L,L=(List.range H).map fun i=>C8 W (f i):=⟨_,rfl⟩
  have k:DZ (.str (tx (Cy H W f))) (.str "/") a=BG ((List.range H).map fun i=>.str (tx (C8 W (f i)))) a:=by rw [show ("/":Str)=tx [47] from rfl,WT c,nM b.1,BQ];rfl
  have l:((List.range H).map fun i=>D.str (tx (C8 W (f i)))).length≤sizeLine:=by rw [Ci];exact sz b.2
  refine Pu.eq (Ek (src:=[(a.length,(List.range H).map fun i=>.str (tx (C8 W (f i))))]) (xs:=List.range H) (φ:=fun i=>.str (tx (C8 W (f i)))) (fun i=>As W (f i)) (fun i=>[some (.str (tx (C8 W (f i))))]) ?_ (fun x _=>rfl) (fun x _ v _=>?_) (sz b.2)) rfl
  ·unfold Bq;simp only [GD,JA,Dk,Cn,AE]
   show Wp (DZ (.str (tx (Cy H W f))) (.str "/") a) _
   rw [k,BG,if_pos l]
   show Wp (ES (.loc a.length) _) _
   simp [ES,BB,Mh];refine ⟨.app _ _,fun o s=>?_⟩;refine Di (s _ _ ?_);simp
  ·simp [Pu];rw [show (".#":Str)=tx [46,35] from rfl];refine Pu.wp (nK (by rw [Ny];omega)) fun t d=>⟨?_,d⟩
   unfold C8 As;rw [BQ]
   congr 1
   refine Cf fun j _=>?_;exact nN
 refine m.wp fun o s=>?_;refine Eq.mpr Ae ?_;simp;refine (Ym Yn).wp fun t d=>?_;simp [Yq b e,(g.trans s).trans d]
end
abbrev K8 (k:Nat):Cell:=.ins "Desk" [("kept",.loc k)]
abbrev EY (x:D) (e:Nat):Cell:=.ins "Keeper" [("now",x),("earlier",.loc e)]
structure wc (h:HD) (d k e:Nat) (ds:List D) (b:D):Prop where
 a1:h[d]?=some (K8 k)
 a2:h[k]?=some (EY b e)
 a3:h[e]?=some (.lst ds)
section
variable {h h':HD} {d k e:Nat} {ds:List D} {b x y:D} {ρ:Ag}
def wc.sm (A:wc h d k e ds b) (s:Sm h h'):wc h' d k e ds b:=⟨s _ _ A.a1,s _ _ A.a2,s _ _ A.a3⟩
def EB (E:h[d]?=some (K8 k)):D0 "Desk" "kept" (.loc d) h=.ok (.loc k) h:=by unfold D0;simp only [E];rfl
def DK (E:h[k]?=some (EY x e)):D0 "Keeper" "now" (.loc k) h=.ok x h:=by unfold D0;simp only [E];rfl
def Rh (E:h[k]?=some (EY x e)):D0 "Keeper" "earlier" (.loc k) h=.ok (.loc e) h:=by unfold D0;simp only [E];rfl
def YF (E:h[k]?=some (EY x e)):Es "Keeper" "now" (.loc k) y ρ h=.ok (.nx,ρ) (h.set k (EY y e)):=by unfold Es;simp only [E];rfl
def DL (E:h[k]?=some (EY x e)) (a:[(("now":Str),x),("earlier",D.loc e)].lookup m=none:=by rfl):Eu "Keeper" m (.loc k) h=.ok (.loc k) h:=by unfold Eu;simp only [E,a,and_self,if_true]
def Nz (E:h[d]?=some (K8 k)) (a:[(("kept":Str),D.loc k)].lookup m=none:=by rfl):Eu "Desk" m (.loc d) h=.ok (.loc d) h:=by unfold Eu;simp only [E,a,and_self,if_true]
def K9 (E:h[k]?=some (EY x e)):Pu (JJ [.loc k] h) h x:=by change Wp (Al 1 Xp [.loc k] h) _;refine Eq.mpr An ?_;simp [DK E,Sm.refl]
def wD:Pu (GS [.bl true] h) h .non:=by change Wp (Al 1 Xr [.bl true] h) _;refine Eq.mpr An ?_;simp [Sm.refl]
end
section
variable {h h':HD} {d k e l:Nat} {ds:List D} {b x y:D} {ρ:Ag} {L R w:List Nat}
def YG:Eg .non .non h=.ok (.bl false) h:=rfl
end
def Ri (c:Nat):∀l,(Bf c l).length≤l.length+1∧∀p∈Bf c l,p.length≤l.length
 |[]=>by simp [Bf]
 |a::l=>by
  obtain ⟨d,b⟩:=Ri c l;unfold Bf;split
  ·refine ⟨by simpa using d,fun p h=>?_⟩;rcases qa6.mp h with rfl |h
   ·simp
   ·have:=b p h;simp;omega
  ·generalize Bf c l=m at d b
   match m with
   |[]=>simp
   |q::e=>
    refine ⟨by simpa using Nat.le_succ_of_le d,fun p h=>?_⟩;rcases qa6.mp h with rfl |h
    ·have:=b q (.head _);simp;omega
    ·have:=b p (.tail _ h);simp;omega
def Iq (w:List Nat):Bool:=match w with
 |[c]=>decide (48≤c∧c≤57)
 |_=>false
noncomputable def NA:List Nat:=[48,49,50,51,52,53,54,55,56,57]
def nO {c:Nat}:c∈NA↔48≤c∧c≤57:=by unfold NA;simp;omega
def nP (l:List Nat) (c:Nat) (h:HD):H0 (.str (tx [c])) (.str (tx l)) h=.ok (.bl (decide (c∈l))) h:=by
 show Out.ok (D.bl (!(Builtin.Str.occurrences (tx l) (tx [c]) 0 (tx l).length 1).isEmpty)) h=_
 rw [KN];have e:(!((BV c l 0).take 1).isEmpty)=decide (c∈l):=by
  cases q:BV c l 0 with
  |nil=>have:=(MP c l 0).mp q;rw [decide_eq_false (fun z=>this c z rfl)];rfl
  |cons i r=>
   have:c∈l:=by refine Decidable.byContradiction fun z=>?_;have:=(MP c l 0).mpr fun a b e=>z (e ▸ b);rw [q] at this;cases this
   rw [decide_eq_true this];rfl
 rw [e]
def nQ {l:List Nat} (a:l.length≤1000):JH (.str (tx l)) h=.ok (.int (l.length:Nat)) h:=by
 show (if (tx l).length≤sizeLine then Out.ok (D.int ((tx l).length:Nat)) h else .stuck)=_
 rw [C6,if_pos (Ct a)]
section
variable {h h':HD} {d k e l:Nat} {ds:List D} {b x y:D} {ρ:Ag} {L R w:List Nat}
def nR (a:w.length≤1000) {c:List (Option D)}:Pu (C0 (Aa Az (Ab (Ai JH) (Ac (Ad 0) (Af))) (mC (.int 1))) (Aa H0 (Ad 0) (mC (.str "0123456789"))) (some (.str (tx w))::c) h) h (.bl (Iq w)):=by
 unfold Pu;rw [show ("0123456789":Str)=tx NA from rfl];simp [nQ a]
 by_cases z:w.length=1
 ·obtain ⟨c,rfl⟩:=List.length_eq_one_iff.mp z
  show Wp (H0 (.str (tx [c])) (.str (tx NA)) h) _
  rw [nP];exact ⟨by simp [Iq,nO],.refl _⟩
 ·have f:((w.length:Int)==1)=false:=beq_eq_false_iff_ne.mpr (by omega);rw [f];refine ⟨?_,.refl _⟩
  show D.bl false=_
  congr 1
  symm
  unfold Iq;split
  ·simp at z
  ·rfl
def YH {l:Nat} {a:List (List Nat)} {i:Nat} (c:ρ[i]?=some (some (.loc l))) (E:h[l]?=some (.lst (a.map fun w=>.str (tx w)))):Bq (A3 (Ad i) ρ h) h (a.map fun w=>.str (tx w)) [(l,a.map fun w=>.str (tx w))]:=by unfold Bq;simp only [GD];simp [Ad,c,ES,BB,Mh,E,Sm.refl];exact fun f s=>Di (s _ _ E)
def nU {i:Nat} (a:ρ[i]?=some (some (.str (tx R)))) (g:R.length≤900) {Q:D→HD→Prop} (q:∀l h',Sm h h'→h.length≤l→h'[l]?=some (.lst ((Bf 32 R).map fun w=>.str (tx w)))→Q (.loc l) h'):Wp (Ck Cn DZ (Ad i) (mC (.str " ")) ρ h) Q:=by
 have c:DZ (.str (tx R)) (.str " ") h=BG ((Bf 32 R).map fun l=>.str (tx l)) h:=by rw [show (" ":Str)=tx [32] from rfl,WT (Ct (by omega))]
 have f:((Bf 32 R).map fun l=>D.str (tx l)).length≤sizeLine:=by rw [Ci];exact Ct (by have:=(Ri 32 R).1;omega)
 simp only [JA,Ad,a,AE,Cn]
 show Wp (DZ (.str (tx R)) (.str " ") h) _
 rw [c,BG,if_pos f];exact q _ _ (.app _ _) (AK _) (by simp)
def nV {l:Nat} {a:List (List Nat)} {i:Nat} (c:ρ[i]?=some (some (.loc l))) (E:h[l]?=some (.lst (a.map fun w=>.str (tx w)))) (f:∀w∈a,w.length≤1000) (g:a.length≤1000):
 Pu (Ab (Ai DR) (Ac (Ax [none] (A3 (Ad i)) (AB 0) (AH) (C0 (Aa Az (Ab (Ai JH) (Ac (Ad 0) (Af))) (mC (.int 1))) (Aa H0 (Ad 0) (mC (.str "0123456789"))))) (Af)) ρ h) h (.bl (a.all Iq)):=by
 rw [iu];exact Mp (xs:=a) (φ:=fun w=>.str (tx w)) Iq (fun w=>[some (.str (tx w))]) (YH c E) (fun x _=>rfl) (fun x j h' _=>nR (f x j)) (Ct g)
end
def JZ:MS:=AC (Aq (Aa Az (Ad 2) (mC (.str "alike")))) (Ak (Dg (B7 (Ab JR (Ac (B5 "Keeper" "board" JJ (BN "Desk" (Ad 0) "kept") (Af)) (Ac (Ab JO (Ac (Ad 4) (Af))) (Af))))) (mC (.str "yes")) (mC (.str "no")))) (AG)
def Ir:MS:=AM (AC (Aq (Aa Az (Ad 2) (mC (.str "board")))) (AU (B5 "Keeper" "change_to" GR (BN "Desk" (Ad 0) "kept") (Ac (Ab JO (Ac (Ad 4) (Af))) (Af)))) (AU (B5 "Desk" "do_at" Ij (Ad 0) (Ac (Ad 2) (Ac (Ab M8 (Ac (Ad 4) (Af))) (Af)))))) (Ak (mC (.str "ok")))
def NB:MS:=AC (Aq (Aa Az (Ad 3) (mC (.str "")))) (Ak (B5 "Desk" "say_word" Nt (Ad 0) (Ac (Ad 2) (Af)))) (AG)
def nW:Q1=AM (AU (Ab GS (Ac (Ab (Bo AZ) (Ac (Ad 1) (Ac (mC (.ty "str")) (Af)))) (Af)))) (AM (C3 (En [2,3,4]) (Ck Cn F6 (Ad 1) (mC (.str " ")))) (AM NB (AM JZ Ir))):=rfl
@[simp] theorem nX {d:Ag} {a b c:D} {i j k:Nat}:En [i,j,k] (.tup [a,b,c]) d=some (((d.set i (some a)).set j (some b)).set k (some c)):=id rfl
def nY {s:MG} {f:ME} {Q:Fl×Ag→HD→Prop} {R:Str→List (Str×D)→HD→Prop}:We (C3 s f a h) Q R=We (f a h) (fun d b=>We (Ml (s d a) b) Q R) R:=by unfold C3;rw [Dp];rfl
def YI (c:Nat):∀(a b:List Nat),(∀x∈a,x≠c)→FC c (a++c::b)=some (a,b)
 |[],b,_=>by rw [G7,FC,if_pos rfl]
 |x::a,b,h=>by rw [List.cons_append,FC,if_neg (h x (by simp)),YI c a b fun y d=>h y (by simp [d])];rfl
def Ga:List Nat:=[98,111,97,114,100]
def GY:List Nat:=[97,108,105,107,101]
section
variable {h h':HD} {d k e l:Nat} {ds:List D} {b x y:D} {ρ:Ag} {L R w:List Nat}
def YJ (m:L.length≤900) {Q:D→HD→Prop} {E:Str→List (Str×D)→HD→Prop} (q:∀h',Sm h h'→We (AM NB (AM JZ Ir) [some (.loc d),some (.str (tx L)),some (.str (tx (BH 32 L).1)),some (.str (tx (BH 32 L).2.1)),some (.str (tx (BH 32 L).2.2))] h') (Dj Q) E):We (Cd [.loc d,.str (tx L)] h) Q E:=by
 change We (Al 5 Q1 [.loc d,.str (tx L)] h) _ _;refine Eq.mpr DY ?_;rw [nW];change We (AM _ _ [some (.loc d),some (.str (tx L)),none,none,none] h) _ _;have p:Pu (Ab (Bo AZ) (Ac (Ad 1) (Ac (mC (.ty "str")) (Af))) [some (.loc d),some (.str (tx L)),none,none,none] h) h (.bl true):=by have e:AZ (.str (tx L)) (.ty "str") h=.ok (.bl true) h:=rfl;simp [Pu,e,Sm.refl]
 rw [DI,MC,Jy,Jz];refine p.we fun n s=>?_;rw [HN];refine wD.we fun a f=>?_;have g:Pu (Ck Cn F6 (Ad 1) (mC (.str " ")) [some (.loc d),some (.str (tx L)),none,none,none] a) a (.tup [.str (tx (BH 32 L).1),.str (tx (BH 32 L).2.1),.str (tx (BH 32 L).2.2)]):=by
  have i:F6 (.str (tx L)) (.str " ") a=.ok (.tup [.str (tx (BH 32 L).1),.str (tx (BH 32 L).2.1),.str (tx (BH 32 L).2.2)]) a:=by rw [show (" ":Str)=tx [32] from rfl,lZ (Ct (by omega))]
  simp [Pu,i,Sm.refl]
 rw [Wm,DI,nY];refine g.we fun c j=>?_;simp only [nX];refine Eq.mpr (show We (Ml (some _) c) _ _=_ from rfl) ?_;exact q c ((s.trans f).trans j)
def NC {t:MT} {R:Str→List (Str×D)→HD→Prop}:We (Dg t f g ρ h) Q R=We (t ρ h) (fun b a=>We (if b=true then f ρ a else g ρ a) Q R) R:=by unfold Dg;rw [Dp]
def nZ (a:∀x∈w,x≠32):BH 32 (w++32::R)=(w,[32],R):=by unfold BH;rw [YI 32 w R a]
def Rj (c:∀x∈w,x≠32) (f:(w++32::R).length≤900) {Q:D→HD→Prop} {E:Str→List (Str×D)→HD→Prop} (q:∀h',Sm h h'→We (AM JZ Ir [some (.loc d),some (.str (tx (w++32::R))),some (.str (tx w)),some (.str (tx [32])),some (.str (tx R))] h') (Dj Q) E):We (Cd [.loc d,.str (tx (w++32::R))] h) Q E:=by refine YJ f fun a s=>?_;rw [nZ c,DI];unfold NB;have g:Az (.str (tx [32])) (.str "") a=.ok (.bl false) a:=rfl;simp only [HL,HM,HQ,F0,Fy,HP,g,CK];exact q a s
end
def Iu {l:Nat} {c:Cell} {h:HD} (a:l<h.length):(h.set l c)[l]?=some c:=BP a
def CW {l j:Nat} {c:Cell} {h:HD} (a:l≠j):(h.set l c)[j]?=h[j]?:=BI a
def DM {l:Nat} {c:Cell} {h:HD} (e:h[l]?=some c):l<h.length:=(qa1.mp e).1
def YK {l:Nat} {h:HD} (E:h[l]?=some (.lst (d++[x]))):KM (.loc l) h=.ok x (h.set l (.lst d)):=by unfold KM;simp [E]
def Sx (k e:Nat) (h a:HD):Prop:=∀l c,l≠k→l≠e→h[l]?=some c→a[l]?=some c
def Sx.trans {k e:Nat} (a:Sx k e h d) (b:Sx k e d f):Sx k e h f:=fun l c n g z=>b l c n g (a l c n g z)
def FI {k e:Nat} (s:Sm h a):Sx k e h a:=fun l c _ _ z=>s l c z
section
variable {h:HD} {d k e:Nat} {ds:List D} {b x y:D} {ρ:Ag} {L:List Nat}
def wc.ne (A:wc h d k e ds b):e≠k∧d≠k∧d≠e:=by
 refine ⟨fun z=>?_,fun z=>?_,fun z=>?_⟩
 ·have:=A.a3;rw [z,A.a2] at this;cases this
 ·have:=A.a1;rw [z,A.a2] at this;cases this
 ·have:=A.a1;rw [z,A.a3] at this;cases this
def La {Q:D→HD→Prop} (A:wc h d k e ds b) (f:ds.length≤1000) (q:∀a,wc a d k e (ds++[b]) y→Sx k e h a→Q .non a):Wp (GR [.loc k,y] h) Q:=by
 change Wp (Al 2 Xo [.loc k,y] h) _;refine Eq.mpr An ?_;obtain ⟨ne,n,g⟩:=A.ne;simp [Rh A.a2];rw [Ej A.a3];simp [DK A.a2];rw [GE A.a3 (Nat.lt_of_le_of_lt f (by decide))];simp;have i:(h.set e (.lst (ds++[b])))[k]?=some (EY b e):=by rw [CW ne];exact A.a2
 rw [YF i];simp;refine q _ ⟨?_,Iu (by rw [Lr];exact DM A.a2),?_⟩ fun l c j n z=>?_
 ·rw [CW (Ne.symm n),CW (Ne.symm g)];exact A.a1
 ·rw [CW (Ne.symm ne),Iu (DM A.a3)]
 ·rw [CW (Ne.symm j),CW (Ne.symm n)];exact z
def n8 {Q:D→HD→Prop} (A:wc h d k e (ds++[x]) b) (q:∀a,wc a d k e ds x→Sx k e h a→Q .non a):Wp (KZ [.loc k] h) Q:=by
 change Wp (Al 1 Qm [.loc k] h) _;refine Eq.mpr An ?_;obtain ⟨ne,n,f⟩:=A.ne;simp [Rh A.a2,Ef,A.a3];rw [Ej A.a3];simp;rw [YK A.a3];simp;have g:(h.set e (.lst ds))[k]?=some (EY b e):=by rw [CW ne];exact A.a2
 rw [YF g];simp;refine q _ ⟨?_,Iu (by rw [Lr];exact DM A.a2),?_⟩ fun l c i n z=>?_
 ·rw [CW (Ne.symm n),CW (Ne.symm f)];exact A.a1
 ·rw [CW (Ne.symm ne),Iu (DM A.a3)]
 ·rw [CW (Ne.symm i),CW (Ne.symm n)];exact z
def n9 (A:wc h d k e [] b):Er (KZ [.loc k] h) h "NoRow":=by change We (Al 1 Qm [.loc k] h) _ _;refine Eq.mpr DY ?_;simp [Rh A.a2,Ef,A.a3,Fs,Sm.refl]
def oa (E:h[k]?=some (.ins "Keeper" [])):Es "Keeper" "now" (.loc k) y ρ h=.ok (.nx,ρ) (h.set k (.ins "Keeper" [("now",y)])):=by unfold Es;simp only [E];rfl
def og {l:Nat} (E:h[k]?=some (.ins "Keeper" [("now",x)])):Es "Keeper" "earlier" (.loc k) (.loc l) ρ h=.ok (.nx,ρ) (h.set k (EY x l)):=by unfold Es;simp only [E];rfl
def oh (E:h[d]?=some (.ins "Desk" [])):Es "Desk" "kept" (.loc d) (.loc k) ρ h=.ok (.nx,ρ) (h.set d (K8 k)):=by unfold Es;simp only [E];rfl
def oi {H W:Nat} {f:BF} {Q:D→HD→Prop} (o:SZ H) (p:SZ W) (E:h[k]?=some (.ins "Keeper" [])) (q:∀a e,a[k]?=some (EY (bD H W f) e)→a[e]?=some (.lst [])→h.length≤e→(∀l c,l≠k→h[l]?=some c→a[l]?=some c)→Q .non a):Wp (Nl [.loc k,bD H W f] h) Q:=by
 change Wp (Al 2 X1 [.loc k,bD H W f] h) _;refine Eq.mpr An ?_;simp;refine (Ez o p).wp fun A s=>?_;have g:=s _ _ E
 try simp
 rw [oa g];simp;refine A4 (by simp) fun l r i t u _=>?_;have m:r[k]?=some (.ins "Keeper" [("now",bD H W f)]):=i _ _ (Iu (DM g));have v:h.length≤l:=by rw [u,Lr];exact s.len
 have w:k≠l:=by have:=DM E;omega
 rw [og m];simp;refine q _ l (Iu (DM m)) (by rw [CW w];exact t) v fun j c n z=>?_;rw [CW (Ne.symm n)];exact i _ _ (by rw [CW (Ne.symm n)];exact s _ _ z)
abbrev b0:D:=bD 1 1 fun _ _=>false
def oj:Ii [.loc d] h=Al 1 (F7 "Desk" (Ad 0) "kept" (EW "Keeper" Nl (Ac (mC b0) (Af)))) [.loc d] h:=rfl
def YL {Q:D→HD→Prop} (q:∀d k e g,wc g d k e [] b0→h.length≤d→h.length≤k→h.length≤e→Sm h g→Q (.loc d) g):Wp (EW "Desk" Ii Af ρ h) Q:=by
 rw [W7,B2];rw [oj,An];simp only [my,W7,BM,Jj,B2];have t:(h++[Cell.ins "Desk" []]).length=h.length+1:=by simp
 have j:(h++[Cell.ins "Desk" []]++[Cell.ins "Keeper" []])[(h++[Cell.ins "Desk" []]).length]?=some (.ins "Keeper" []):=by simp
 have m:(h++[Cell.ins "Desk" []]++[Cell.ins "Keeper" []])[h.length]?=some (.ins "Desk" []):=by simp
 refine oi (H:=1) (W:=1) (f:=fun _ _=>false) (by omega) (by omega) j fun i e n o p s=>?_;rw [W6,AE]
 show Wp (Es "Desk" "kept" (.loc h.length) (.loc _) _ i) _
 have a:=s _ _ (by omega) m;rw [oh a,AE];have u:h.length+2≤e:=by simp at p;omega
 show Wp (Qe h.length .non (i.set h.length (K8 (h++[Cell.ins "Desk" []]).length))) _
 rw [W6,AE];refine q _ _ e _ ⟨Iu (DM a),by rw [CW (by omega)];exact n,by rw [CW (by omega)];exact o⟩ (AK _) (by omega) (by omega) fun l c z=>?_;have r:=DM z;rw [CW (by omega)];refine s _ _ (by omega) ?_;rw [EH (by simp;omega),EH r];exact z
def GZ {c:Type} {o:Out c} {Q:c→HD→Prop} (w:We o Q fun _ _ _=>False):Wp o Q:=by
 cases o with
 |ok a h=>exact w
 |err C fs h=>unfold We at w;cases C<;>exact w.elim
 |stuck=>exact w
def om {H W:Nat} {f:BF} {Q:D→HD→Prop} (j:SZ H) (l:SZ W) (A:wc h d k e ds b) (o:ds.length≤1000) (q:∀c,wc c d k e (ds++[b]) (bD H W f)→Sx k e h c→Q (.str "ok") c):Wp (Cd [.loc d,.str (tx (Ga++32::Cy H W f))] h) Q:=by
 have w:=JY (H:=H) (W:=W) (f:=f) j.2 l.2;have g:∀x∈Ga,x≠32:=by decide
 refine GZ (Rj g (by simp [Ga];omega) fun a s=>?_);have i:=A.sm s;rw [DI];unfold JZ;have p:Az (.str (tx Ga)) (.str "alike") a=.ok (.bl false) a:=rfl;simp only [HL,HM,HQ,F0,Fy,HP,p,CK]
 show We (Ir _ a) _ _
 unfold Ir;have r:Az (.str (tx Ga)) (.str "board") a=.ok (.bl true) a:=rfl;simp only [DI,HL,HM,HQ,F0,Fy,HP,r,CK]
 show We (AU _ _ a) _ _
 simp only [MC,JG,KU,F0,Fy,EB i.a1,DL (m:="change_to") i.a2,CK,Jz,Jy,HN];refine (YE j l).we fun z n=>?_;refine Wp.we (La (i.sm n) o fun t u v=>?_);exact q t u ((FI (s.trans n)).trans v)
def Rk (g:L.length≤900) (i:∀x∈L,x≠32) {Q:D→HD→Prop} {E:Str→List (Str×D)→HD→Prop} (A:wc h d k e ds b) (q:∀c,Sm h c→We (Nt [.loc d,.str (tx L)] c) Q E):We (Cd [.loc d,.str (tx L)] h) Q E:=by
 refine YJ g fun a s=>?_;have j:BH 32 L=(L,[],[]):=by unfold BH;rw [(LS.cutL_none 32 L).mpr i]
 rw [j];have f:=A.sm s;rw [DI];unfold NB;have l:Az (.str (tx [])) (.str "") a=.ok (.bl true) a:=rfl;simp [l];simp only [EB f.a1,Nz (m:="say_word") f.a1,CK];exact q a s
def Iv:List Nat:=[117,110,100,111]
def oo:∀s∈(["show","lit","left","bound","fours","counts"]:List Str),¬tx Iv=s:=by decide +kernel
def YM {Q:D→HD→Prop} {E:Str→List (Str×D)→HD→Prop} (A:wc h d k e ds b) (q:∀i,Sm h i→We (KZ [.loc k] i) (fun _ f=>Q (.str "ok") f) E):We (Cd [.loc d,.str "undo"] h) Q E:=by
 refine Rk (L:=Iv) (by decide) (by decide) A fun j s=>?_;have g:=A.sm s;change We (Al 4 Im [.loc d,.str (tx Iv)] j) _ _;refine Eq.mpr DY ?_;simp only [Im,DI,PU,Jy,Jz,JG,KU];change We (D0 "Desk" "kept" (.loc d) j) _ _;rw [EB g.a1,CK];rw [DL g.a2,CK,HN];refine (K9 g.a2).we fun f l=>?_;have p:=g.sm l;simp;have r:Pu (Ew [b,.str (tx Iv)] f) f .non:=by change Wp (Al 2 F8 [b,.str (tx Iv)] f) _;refine Eq.mpr An ?_;have a:=oo;generalize Iv=L at a;simp [a "show" (by decide),a "lit" (by decide),a "left" (by decide),a "bound" (by decide),a "fours" (by decide),a "counts" (by decide),Sm.refl]
 refine r.we fun c n=>?_;have o:=p.sm n;have t:Az (.str (tx Iv)) (.str "undo") c=.ok (.bl true) c:=rfl;rw [YG,CK];have u:I0 (.bl false) c=.ok false c:=rfl;rw [u,CK];simp only [Cz,if_false,j9,Wm,DI,HL,HM,HQ,F0,Fy,HP];rw [t,CK]
 show We (AM (AU _) _ _ c) _ _
 simp only [DI,MC,JG,KU,Fy,EB o.a1,DL (m:="undo") o.a2,CK,HN];refine We.mono (q c ((s.trans l).trans n)) (fun v w z=>?_) fun _ _ _ z=>z;exact z
def oq {Q:D→HD→Prop} (A:wc h d k e (ds++[x]) b) (q:∀a,wc a d k e ds x→Sx k e h a→Q (.str "ok") a):Wp (Cd [.loc d,.str "undo"] h) Q:=
 GZ (YM A fun i s=>Wp.we (n8 (A.sm s) fun c f g=>q c f ((FI s).trans g)))
def YN (A:wc h d k e [] b):Er (Cd [.loc d,.str "undo"] h) h "NoRow":=
 YM A fun c s=>(n9 (A.sm s)).we fun f a=>⟨rfl,rfl,s.trans a⟩
end
def _root_.LS.Sm.put {h a:HD} {l:Nat} {c:Cell} (s:Sm h a) (b:h.length≤l):Sm h (a.set l c):=fun i x e=>by rw [BI (by have:=(qa1.mp e).1;omega)];exact s i x e
def ED (n:Nat):D→Bool
 |.int i=>decide (0≤i)&&decide (i≤(n:Int) - 1)
 |_=>false
def YO {d:D} {n:Nat} (p:Plain h d):Pu (Ig [d,.int 0,.int ((n:Int) - 1)] h) h (.bl (ED n d)):=by
 cases a:JS d with
 |false=>
  have e:ED n d=false:=by cases d<;>first |rfl |cases a
  rw [e];exact Yg (by rw [Q4 p,a])
 |true=>obtain ⟨i,rfl⟩:=Q5 a;exact wJ
def ot {d:D} {n:Nat} (p:Plain h d) (a:ED n d=true):Pu (GU [d,.int (n:Nat)] h) h .non:=by change Wp (Al 2 Qy [d,.int (n:Nat)] h) _;refine Eq.mpr An ?_;simp;refine (YO p).wp fun b s=>?_;simp [a,s]
def ND {d:D} {n:Nat} (p:Plain h d) (a:ED n d=false):Er (GU [d,.int (n:Nat)] h) h "NoLine":=by change We (Al 2 Qy [d,.int (n:Nat)] h) _ _;refine Eq.mpr DY ?_;simp;refine (YO p).we fun b s=>?_;simp [a,s,Fs]
def ou {n i:Nat} (h:i<n):ED n (.int (i:Nat))=true:=by simp [ED];omega
def DD (f:BF) (r c:Nat):BF:=fun i j=>if i=r∧j=c then !f i j else f i j
section
variable {H W:Nat} {f:BF} {h:HD} {r c:Nat}
def YP (a:r<H):bD H W (DD f r c)=.tup (((List.range H).map fun i=>As W (f i)).take r++[As W (DD f r c r)]++((List.range H).map fun i=>As W (f i)).drop (r+1)):=by
 unfold bD
 congr 1
 apply List.ext_getElem?;intro i;rw [J7]
 by_cases b:i<r
 ·rw [EH (by simp;omega),N4 b,Cg,Cg,D8 (by omega)];simp only [G8,Option.some.injEq];unfold As DD
  congr 1
  refine Cf fun j _=>?_;rw [if_neg (by omega)]
 ·rw [IF (by simp;omega)];have d:(((List.range H).map fun i=>As W (f i)).take r).length=r:=by simp;omega
  rw [d]
  by_cases e:i=r
  ·subst e;simp [D8 a]
  ·obtain ⟨k,rfl⟩:∃k,i=r+1+k:=⟨i - r - 1,by omega⟩
   rw [show r+1+k - r=k+1 by omega,List.singleton_append,N8,List.getElem?_drop,Cg,Cg]
   by_cases g:r+1+k<H
   ·rw [D8 g];simp only [G8,Option.some.injEq];unfold As DD
    congr 1
    refine Cf fun j _=>?_;rw [if_neg (by omega)]
   ·rw [Oc (by simp;omega)];rfl
def YQ (b:c<W):((List.range W).map fun j=>lit (f r j)).set c (lit (!f r c))=(List.range W).map fun j=>lit (DD f r c r j):=by
 apply List.ext_getElem?;intro j
 by_cases a:j=c
 ·subst a;rw [BP (by simpa using b)];simp [D8 b,DD]
 ·rw [BI (Ne.symm a),Cg,Cg]
  by_cases d:j<W
  ·rw [D8 d];simp [DD,a]
  ·rw [Oc (by simp;omega)];rfl
def YR {b:Bool}:Cw (.int 1) (lit b) h=.ok (lit (!b)) h:=by cases b<;>rfl
def ow (b:r<H) (a:c<W) (n:H≤8) (o:W≤8):Pu (Ql [bD H W f,.int (r:Nat),.int (c:Nat)] h) h (bD H W (DD f r c)):=by
 change Wp (Al 4 Xn [bD H W f,.int (r:Nat),.int (c:Nat)] h) _;refine Eq.mpr An ?_;simp;rw [Io b];simp [As];rw [mZ];refine A4 (by simp;exact Re (by omega)) fun l d s e p _=>?_;have g:((List.range W).map fun j=>lit (f r j))[c]?=some (lit (f r c)):=by simp [D8 a]
 refine AN (B4 e g) ?_;simp;rw [YR];simp;rw [Mo e (by simpa using a),YQ a];simp;have i:(d.set l (.lst ((List.range W).map fun j=>lit (DD f r c r j))))[l]?=some (.lst ((List.range W).map fun j=>lit (DD f r c r j))):=by rw [BP (by have:=(qa1.mp e).1;exact this)]
 have m:Sm h (d.set l (.lst ((List.range W).map fun j=>lit (DD f r c r j)))):=Sm.put s (by omega);simp [bD];rw [PV (k:=r) (by simp;omega)];simp [Bi,i];rw [JT (by simp;omega)];simp;rw [PX (k:=r) (by omega) (by simp;omega)];simp;rw [JT (by simp;omega)];simp;refine ⟨?_,m⟩;have:=YP (W:=W) (f:=f) (c:=c) b;rw [bD] at this;have:=D.tup.inj this;rw [this];simp [As]
end
section
variable {h:HD} {d k e H W:Nat} {ds:List D} {b:D} {f:BF}
def NF {n r:Nat} (l:r<n):AV n (fun i=>i==r)=.tup [.int (r:Nat)]:=by
 unfold AV;have:(List.range n).filter (fun i=>i==r)=[r]:=by
  induction n with
  |zero=>omega
  |succ n c=>
   rw [Cp,List.filter_append]
   by_cases g:r=n
   ·subst g;rw [List.filter_eq_nil_iff.mpr fun a j=>by have:=qb3.mp j;simp;omega];simp
   ·rw [c (by omega)];have:(n==r)=false:=by simp;omega
    simp [this]
 rw [this];rfl
def lot_no {n:Nat}:AV n (fun _=>false)=.tup []:=by unfold AV;rw [List.filter_eq_nil_iff.mpr fun _ _=>by simp];rfl
def oy {r:Nat} (a:r<H):D1 H W (fun i=>i==r) (fun _=>false)=.tup [.tup [.int (r:Nat)],.tup []]:=by unfold D1;rw [NF a,lot_no]
def oz {c:Nat} (a:c<W):D1 H W (fun _=>false) (fun j=>j==c)=.tup [.tup [],.tup [.int (c:Nat)]]:=by unfold D1;rw [NF a,lot_no]
def NG (a:1≤H):Ah (bD H W f) (.int 0) h=.ok (As W (f 0)) h:=BO a
def Lb {i n:Nat} (a:i<n):Pu (GU [.int (i:Nat),.int (n:Nat)] h) h .non:=ot (d:=.int (i:Nat)) trivial (ou a)
def oA {r c:Nat} {Q:D→HD→Prop} (i:SZ H) (t:SZ W) (A:wc h d k e ds (bD H W f)) (u:ds.length≤1000) (j:r<H) (l:c<W) (q:∀a,wc a d k e (ds++[bD H W f]) (bD H W <| DD f r c)→Sx k e h a→Q .non a):Wp (JN [.loc k,.int (r:Nat),.int (c:Nat)] h) Q:=by change Wp (Al 3 Nb [.loc k,.int (r:Nat),.int (c:Nat)] h) _;refine Eq.mpr An ?_;simp [DK A.a2,B9];refine (Lb j).wp fun y s=>?_;have n:=A.sm s;simp [DK n.a2,NG i.1,Co];refine (Lb l).wp fun z o=>?_;have g:=n.sm o;simp [DL (m:="change_to") g.a2,DK g.a2];refine (ow j l i.2 t.2).wp fun B p=>?_;refine La (g.sm p) u fun v w x=>?_;exact q v w ((FI ((s.trans o).trans p)).trans x)
def oB (A:wc h d k e ds (bD H W f)) (p:Plain h x) (a:ED H x=false):Er (JN [.loc k,x,y] h) h "NoLine":=by change We (Al 3 Nb [.loc k,x,y] h) _ _;refine Eq.mpr DY ?_;simp [DK A.a2,B9];refine (ND p a).we fun c s=>?_;exact ⟨rfl,rfl,s⟩
def oC {r:Nat} (a:1≤H) (A:wc h d k e ds (bD H W f)) (c:r<H) (p:Plain h y) (g:ED W y=false):Er (JN [.loc k,.int (r:Nat),y] h) h "NoLine":=by change We (Al 3 Nb [.loc k,.int (r:Nat),y] h) _ _;refine Eq.mpr DY ?_;simp [DK A.a2,B9];refine (Lb c).we fun l s=>?_;have i:=A.sm s;simp [DK i.a2,NG a,Co];refine (ND (p.sm s) g).we fun m j=>?_;exact ⟨rfl,rfl,s.trans j⟩
def oD {r:Nat} {Q:D→HD→Prop} (l:SZ H) (n:SZ W) (A:wc h d k e ds (bD H W f)) (o:ds.length≤1000) (g:r<H) (q:∀a,wc a d k e (ds++[bD H W f]) (bD H W <| sw f (fun i=>i==r) fun _=>false)→Sx k e h a→Q .non a):Wp (K2 [.loc k,.int (r:Nat)] h) Q:=by change Wp (Al 2 QY [.loc k,.int (r:Nat)] h) _;refine Eq.mpr An ?_;simp [DK A.a2,B9];refine (Lb g).wp fun v s=>?_;have c:=A.sm s;simp [DL (m:="change_to") c.a2,DK c.a2];rw [←oy (W:=W) g];refine (K6 l n).wp fun w j=>?_;refine La (c.sm j) o fun p t u=>?_;exact q p t ((FI (s.trans j)).trans u)
def oE (A:wc h d k e ds (bD H W f)) (p:Plain h x) (a:ED H x=false):Er (K2 [.loc k,x] h) h "NoLine":=by change We (Al 2 QY [.loc k,x] h) _ _;refine Eq.mpr DY ?_;simp [DK A.a2,B9];refine (ND p a).we fun c s=>?_;exact ⟨rfl,rfl,s⟩
def oF {c:Nat} {Q:D→HD→Prop} (i:SZ H) (o:SZ W) (A:wc h d k e ds (bD H W f)) (p:ds.length≤1000) (l:c<W) (q:∀a,wc a d k e (ds++[bD H W f]) (bD H W <| sw f (fun _=>false) fun j=>j==c)→Sx k e h a→Q .non a):Wp (K3 [.loc k,.int (c:Nat)] h) Q:=by change Wp (Al 2 QZ [.loc k,.int (c:Nat)] h) _;refine Eq.mpr An ?_;simp [DK A.a2,NG i.1,Co];refine (Lb l).wp fun v s=>?_;have g:=A.sm s;simp [DL (m:="change_to") g.a2,DK g.a2];rw [←oz (H:=H) l];refine (K6 i o).wp fun w n=>?_;refine La (g.sm n) p fun r t u=>?_;exact q r t ((FI (s.trans n)).trans u)
def oG (a:1≤H) (A:wc h d k e ds (bD H W f)) (p:Plain h x) (c:ED W x=false):Er (K3 [.loc k,x] h) h "NoLine":=by change We (Al 2 QZ [.loc k,x] h) _ _;refine Eq.mpr DY ?_;simp [DK A.a2,NG a,Co];refine (ND p c).we fun g s=>?_;exact ⟨rfl,rfl,s⟩
def Ce:Az (.str a) (.str a) h=.ok (.bl true) h:=by
 show Out.ok (D.bl (a==a)) h=_
 rw [beq_self_eq_true]
def A6 {a b:Str} (n:a≠b):Az (.str a) (.str b) h=.ok (.bl false) h:=by
 show Out.ok (D.bl (a==b)) h=_
 rw [beq_eq_false_iff_ne.mpr n]
end
def Rl {n:Nat} {e:Nat→D}:(List.range n).map e++[e n]=(List.range (n+1)).map e:=by simp [Cp]
inductive YS (H W:Nat) (f:BF) (p q:Nat→Bool) (h:HD) (l:Nat) (xs:List Nat) (ρ:Ag) (h':HD):Prop where
 |mk (k:Nat) (d4 d5 d6 d7 d8:Option D) (f0:xs=(List.range H).drop k) (f1:k≤H) (f2:ρ=[some (bD H W f),some (AV H p),some (AV W q),some (.loc l),d4,d5,d6,d7,d8]) (f3:Sm h h') (f4:h'[l]?=some (.lst ((List.range k).map fun i=>As W (sw f p q i)))):YS H W f p q h l xs ρ h'
inductive YT (H W:Nat) (f:BF) (p q:Nat→Bool) (h1:HD) (l k m:Nat) (xs:List Nat) (ρ:Ag) (h':HD):Prop where
 |mk (j:Nat) (d7 d8:Option D) (f0:xs=(List.range W).drop j) (f1:j≤W) (f2:ρ=[some (bD H W f),some (AV H p),some (AV W q),some (.loc l),some (.int (k:Nat)),some (As W (f k)),some (.loc m),d7,d8]) (f3:Sm h1 h') (f4:h'[m]?=some (.lst ((List.range j).map fun j=>lit (sw f p q k j)))):YT H W f p q h1 l k m xs ρ h'
def NH {H W:Nat} {f:BF} {p q:Nat→Bool} (Z:SZ H) (hw:SZ W):Pu (Ic [bD H W f,AV H p,AV W q] h) h (bD H W (sw f p q)):=by
 change Wp (Al 9 Xw [bD H W f,AV H p,AV W q] h) _;refine Eq.mpr (An) ?_;simp [-Ae];refine A4 (by simp) fun l o F G el _=>?_;refine Eq.mpr (Ae) ?_;simp [-Ae];refine CC (src:=[]) (xs:=List.range H) (fun i=>.tup [.int ((i:Nat):Int),As W (f i)]) (YS H W f p q h l) ?_ (fun C d r _=>Cr) ?_ ?_
 ·simp [bD,FX];exact ⟨0,_,_,_,_,_,by simp,by omega,rfl,F,G⟩
 ·rintro x xs d r ⟨k,I,J,L,M,N,ex,hk,rfl,s,e⟩;obtain ⟨rfl,u,rfl⟩:=D2 ex.symm;refine ⟨_,rfl,?_⟩;simp [-Ae];refine A4 (by simp) fun m h2 O P em _=>?_;refine Eq.mpr (Ae) ?_;simp [-Ae];have ll:=(qa1.mp e).1;have R:l≠m:=by omega
  refine CC (src:=[]) (xs:=List.range W) (fun j=>.tup [.int ((j:Nat):Int),lit (f x j)]) (YT H W f p q r l x m) ?_ (fun C d r _=>Cr) ?_ ?_
  ·simp [As,FX];exact ⟨0,_,_,by simp,by omega,rfl,O,P⟩
  ·rintro y C d g ⟨j,S,T,v,E,rfl,t,n⟩;obtain ⟨rfl,w,rfl⟩:=D2 v.symm;refine ⟨_,rfl,?_⟩;simp [Ej n,Nw u,Nw w];have U:∀(Q:D→HD→Prop),Q (lit (sw f p q x y)) g→Wp (Ao (lit (f x y)) (D.int (if p x=true then 1 else 0)) g) fun a o=>Wp (Ao a (D.int (if q y=true then 1 else 0)) o) fun a o=>Wp (DA a (D.int 2) o) Q:=by
    intro Q X;have z:∀a b c:Bool,((if a then 1 else 0:Int)+(if b=true then 1 else 0)+(if c=true then 1 else 0)) % 2=if Bool.xor a (Bool.xor b c) then 1 else 0:=by decide
    have e:=FW (i:=(if f x y then 1 else 0:Int)+(if p x=true then 1 else 0)+(if q y=true then 1 else 0)) (j:=2) (h:=g) (by decide);rw [z] at e;exact (show Wp (DA (.int ((if f x y then 1 else 0:Int)+(if p x=true then 1 else 0)+(if q y=true then 1 else 0))) (.int 2) g) Q from e ▸ X)
   refine U _ ?_;refine AN (GE n (by simp;unfold sizeLine;omega)) ?_;have Y:=(qa1.mp n).1;simp [B3];refine ⟨y+1,_,_,rfl,by omega,rfl,Sm.put t (by omega),?_⟩;rw [BP Y,←Rl]
  ·rintro d g ⟨j,S,T,v,E,rfl,t,n⟩;have:=EA E v.symm;subst this;have A:=t _ _ e;have B:=(qa1.mp A).1;simp [Ej A,Hz n];refine AN (GE A (by simp;unfold sizeLine;omega)) ?_;simp [B3];refine ⟨x+1,_,_,_,_,_,rfl,by omega,rfl,Sm.put (s.trans t) (by omega),?_⟩;rw [BP B,←Rl];rfl
 ·rintro d r ⟨k,I,J,L,M,N,ex,hk,rfl,s,e⟩;have:=EA hk ex.symm;subst this;simp [Hz e];exact ⟨rfl,s⟩
section
variable {H W:Nat} {h:HD} {f:BF} {r:Nat→Bool}
def YU (a:SZ H) (b:SZ W):Pu (Nk [bD H W f] h) h (bD W H fun i j=>f j i):=by
 change Wp (Al 1 (XX) [bD H W f] h) _;refine Eq.mpr (An) ?_;simp;refine (Ez a b).wp fun k s=>?_;refine Pu.wp (Ek (src:=[]) (xs:=List.range W) (φ:=fun j=>.int ((j:Nat):Int)) (fun j=>As H fun i=>f i j) (fun j=>[some (.int ((j:Nat):Int)),some (bD H W f)]) ?_ (fun x _=>rfl) (fun x c d e=>?_) (sz b.2)) fun l g=>?_
 ·simp [Bq,BO a.1,Co];rw [Dl (by omega)];simp [Sm.refl,A7]
 ·simp [Pu];refine (Ek (src:=[]) (xs:=List.range H) (φ:=fun i=>As W (f i)) (fun i=>lit (f i x)) (fun i=>[some (As W (f i)),some (.int ((x:Nat):Int))]) ?_ (fun x _=>rfl) (fun y m d e=>?_) (sz a.2))
  ·simp [Bq,bD,Sm.refl,A7]
  ·simp [Pu,As];rw [GF (by simpa using c)];simp [Sm.refl]
 ·exact ⟨rfl,s.trans g⟩
def YV:BS (As W r) h=.ok (.int (A8 W r)) h:=Pd
def YW (a:SZ H) (b:SZ W):Pu (Nj [bD H W f] h) h (.tup ((List.range H).map fun i=>.int (A8 W (f i)))):=by
 change Wp (Al 1 (XU) [bD H W f] h) _;rw [An];simp;refine (Ez a b).wp fun d s=>?_;refine Pu.wp (Ek (src:=[]) (xs:=List.range H) (φ:=fun i=>As W (f i)) (fun i=>.int (A8 W (f i))) (fun i=>[some (As W (f i))]) GG (fun x _=>rfl) (fun x e g j=>?_) (sz a.2)) fun k c=>?_
 ·simp [Pu,YV,Sm.refl]
 ·exact ⟨rfl,s.trans c⟩
def YX (a:SZ H) (b:SZ W):Pu (Nm [bD H W f] h) h (.tup ((List.range W).map fun j=>.int (A8 H fun i=>f i j))):=by change Wp (Al 1 (X3) [bD H W f] h) _;rw [An];simp;refine (YU a b).wp fun d s=>?_;refine (YW b a).wp fun e c=>?_;simp [s.trans c]
end
def A0 (W:Nat) (c:Nat→Int):D:=.tup ((List.range W).map fun j=>.int (c j))
def Iw {W:Nat} {c a:Nat→Int} (h:∀j,j<W→c j=a j):A0 W c=A0 W a:=by
 unfold A0
 congr 1
 exact Cf fun j b=>by rw [h j (by simpa using b)]
def YY {W:Nat} {c:Nat→Int} {r:Nat→Bool} (a:W≤8):Pu (M1 [A0 W c,As W r] h) h (A0 W fun j=>c j+1 - 2*(if r j then 1 else 0)):=by
 change Wp (Al 2 Xh [A0 W c,As W r] h) _;rw [An];simp;refine Pu.wp (Ek (src:=[]) (xs:=List.range W) (φ:=fun j=>.tup [.int (c j),lit (r j)]) (fun j=>.int (c j+1 - 2*(if r j then 1 else 0))) (fun j=>[some (.int (c j)),some (lit (r j))]) ?_ (fun x _=>rfl) (fun x b d f=>?_) (sz a)) fun g s=>?_
 ·simp [Bq,A0,As];rw [KH (e:=fun j=>.int (c j)) (e':=fun j=>lit (r j)) HF HF];simp [Sm.refl,A7]
 ·simp [Pu,lit];rw [Jn (by decide) (by decide)];simp [Sm.refl]
 ·exact ⟨rfl,s⟩
def oH {W H:Nat} {c:Nat→Int} (a:W≤8):Pu (Qj [A0 W c,.int (H:Nat)] h) h (.int (DW W H c)):=by
 change Wp (Al 2 Xi [A0 W c,.int (H:Nat)] h) _;rw [An];simp;refine Pu.wp (Pz (src:=[]) (xs:=List.range W) (φ:=fun j=>.int (c j)) (fun j=>if (H:Int) - c j<c j then (H:Int) - c j else c j) (fun j=>[some (.int (c j)),some (.int (H:Nat))]) GG (fun x _=>rfl) (fun x b d e=>?_) (sz a)) fun f s=>?_
 ·simp [Pu,Sm.refl]
 ·exact ⟨rfl,s⟩
def oI {n m:Nat} {r a:Nat→Bool} (e:m<n) (h:∀i,i≠m→a i=r i) (f:a m=!r m):A8 n a=A8 n r+1 - 2*(if r m then 1 else 0):=by
 have s:∀k (r:Nat→Bool),A8 (k+1) r=A8 k r+if r k then 1 else 0:=fun k r=>by unfold A8;rw [Cp,Ca,Dw];simp
 have b:∀k:Nat,(k≤m→A8 k a=A8 k r)∧(m<k→A8 k a=A8 k r+1 - 2*(if r m then 1 else 0)):=fun k=>by
  induction k with
  |zero=>exact ⟨fun _=>rfl,fun z=>by omega⟩
  |succ k c=>
   rw [s,s];refine ⟨fun hk=>?_,fun hk=>?_⟩
   ·rw [c.1 (by omega),h k (by omega)]
   ·by_cases d:k=m
    ·subst d;rw [c.1 (by omega),f];cases r k<;>simp<;>omega
    ·rw [c.2 (by omega),h k d];omega
 exact (b n).2 e
def YZ {H n:Nat} {f:BF} {R:Nat→Bool} {j:Nat} (a:n<H) (h:R n=false):cc H f (ext n R) j=cc H f R j+1 - 2*(if f n j then 1 else 0):=by unfold cc;rw [oI (r:=fun i=>Bool.xor (f i j) (R i)) a (fun i b=>by simp [ext,b]) (by simp [ext,h])];simp [h]
def Rm {k:Nat} (hk:k≤7):(LL 1 k).length≤128:=by rw [KI];exact E3 (n:=2) (by decide) hk
def D3 (H W k:Nat) (f:BF):List D:=(LL 1 k).map fun R=>.tup [AV (k+1) R,A0 W (cc H f R)]
def oJ (H W:Nat) (f:BF) (h:HD) (b:List Nat) (c:Ag) (a:HD):Prop:=∃(k l:Nat) (x:Option D),b=(List.range (H - 1)).drop k∧k≤H - 1∧c=[some (bD H W f),some (.loc l),x]∧Sm h a∧a[l]?=some (.lst (D3 H W k f))
def oK {n k:Nat} {e:Nat→D} {i:Int} (a:i=(k:Int)) (hk:k<n):Ah (.tup ((List.range n).map e)) (.int i) h=.ok (e k) h:=by subst a;exact GF hk
def Y0 {H W:Nat} {f:BF} (A:SZ H) (t:SZ W):∃l a,FD [bD H W f] h=.ok (.loc l) a∧Sm h a∧a[l]?=some (.lst (D3 H W (H - 1) f)):=by
 suffices B:Wp (FD [bD H W f] h) (fun d a=>∃l,d=.loc l∧Sm h a∧a[l]?=some (.lst (D3 H W (H - 1) f))) by obtain ⟨d,a,e,l,rfl,q⟩:=B.ex;exact ⟨l,a,e,q⟩
 change Wp (Al 3 (X6) [bD H W f] h) _;rw [An];simp [-Ae];refine (YX A t).wp fun a C=>?_;refine A4 (by simp) fun l b s g _ _=>?_;rw [Ae];simp [-Ae];refine CC (src:=[]) (xs:=List.range (H - 1)) (fun k=>.int (1+(k:Int))) (oJ H W f h) ?_ (fun P u v _=>Cr) ?_ ?_
 ·have E:Au (bD H W f) b=.ok (.int ((H:Nat):Int)) b:=by simp [bD]
  simp [E];rw [show (1:Int)=((1:Nat):Int) from rfl,Q9 (by omega) (by omega)];simp;refine ⟨0,l,none,by simp,by omega,rfl,C.trans s,?_⟩;rw [g];simp [D3,LL,AV];exact Iw (W:=W) fun j _=>HH fun i _=>by simp
 ·rintro x xs u v ⟨k,w,y,ex,hk,rfl,p,c⟩;obtain ⟨rfl,F,rfl⟩:=D2 ex.symm;refine ⟨_,rfl,?_⟩;simp;refine CV (src:=[(w,D3 H W x f)]) (xs:=LL 1 x) (φ:=fun R=>.tup [AV (x+1) R,A0 W (cc H f R)]) (fun _=>true) (fun R=>.tup [AV (x+1+1) (ext (1+x) R),A0 W (cc H f (ext (1+x) R))]) (fun R=>[some (AV (x+1) R),some (A0 W (cc H f R)),some (.int (1+(x:Int))),some (bD H W f)]) ?_ (F9 (BJ (Rm (by omega)) (by decide))) (fun R _=>rfl) (fun R _ b s=>(.ok:Pu (.ok true b) b true)) (fun R r _ b s=>?_) fun Q G m o=>?_
  ·simp [Fx c,D3];exact ⟨.refl _,fun b s=>Di (s _ _ c)⟩
  ·have I:R (1+x)=false:=HI r _ (by omega);simp [Pu];unfold AV;rw [jh (F9 (by
    have:=J6 R (List.range (x+1));simp at this ⊢
    omega))]
   simp;unfold bD;rw [oK (k:=1+x) (by omega) (by omega)];simp;refine (YY t.2).wp fun G m=>?_;simp [m];refine ⟨?_,Iw fun j _=>(YZ (by omega) I).symm⟩;have J:AV (x+1+1) (ext (1+x) R)=AV (x+1+1) (ext (x+1) R):=by rw [Nat.add_comm 1 x]
   have g:=J.trans (nE (n:=x+1) (R:=R));unfold AV at g;have o:=D.tup.inj g;rw [o,show (1+(x:Int))=(((x+1:Nat)):Int) from by omega]
  ·rw [B8] at o;rw [jg (m _ _ c) o];have z:=Rm (k:=x) (by omega);refine A4 (F9 (by simp [D3];omega)) fun L S M N _ _=>?_;simp only [B3];refine ⟨x+1,L,_,rfl,by omega,rfl,p.trans (m.trans M),?_⟩;rw [N];have O:D3 H W x f=(LL 1 x).map fun R=>.tup [AV (x+1+1) R,A0 W (cc H f R)]:=Cf fun R r=>by rw [nF (n:=x+1) (HI r _ (by omega))]
   rw [O]
   show _=some (Cell.lst ((LL 1 (x+1)).map fun R=>.tup [AV (x+1+1) R,A0 W (cc H f R)]))
   rw [LL,Ca,BQ];rfl
 ·rintro u v ⟨k,w,y,ex,hk,rfl,p,c⟩;have:k=H - 1:=EA hk ex.symm;subst this;simp;exact ⟨p,c⟩
section
variable {H W:Nat} {f:BF} {p q:Nat→Bool} {h:HD}
def oM {l:Nat} (e:FD [bD H W f] h=.ok (.loc l) a) (s:Sm h a) (c:a[l]?=some (.lst (D3 H W (H - 1) f))):
 Bq (A3 (Ab FD (Ac (Ad 0) Af)) (some (bD H W f)::b) h) h ((LL 1 (H - 1)).map fun R=>.tup [AV (H - 1+1) R,A0 W (cc H f R)]) [(l,D3 H W (H - 1) f)]:=by
 have:A3 (Ab FD (Ac (Ad 0) Af)) (some (bD H W f)::b) h=(FD [bD H W f] h).bind ES:=rfl;rw [this];exact jl e s c
def oN (a:SZ H):(LL 1 (H - 1)).length≤sizeLine:=F9 (BJ (Rm (by omega)) (by decide))
def oO (a:SZ H) (b:SZ W):Pu (QV [bD H W f] h) h (.int (DX H W f)):=by
 change Wp (Al 1 (X9) [bD H W f] h) _;rw [An];simp;obtain ⟨l,g,e,s,c⟩:=Y0 (f:=f) (h:=h) a b;refine Pu.wp (jk (src:=[(l,D3 H W (H - 1) f)]) (xs:=LL 1 (H - 1)) (φ:=fun R=>.tup [AV (H - 1+1) R,A0 W (cc H f R)]) (fun R=>DW W H (cc H f R)) (fun R=>[some (AV (H - 1+1) R),some (A0 W (cc H f R)),some (bD H W f)]) (oM e s c) (fun R _=>rfl) (fun R i j k=>?_) (oN a) V7) fun m d=>?_
 ·simp [Pu,B9];exact oH b.2
 ·exact ⟨rfl,d⟩
end
def Y1:∀n a b:Nat,a≤n→b≤n→(a|||b)=(a ^^^b)+(a&&& b)
 |0,a,b,h,c=>by
  obtain rfl:a=0:=by omega
  obtain rfl:b=0:=by omega
  rfl
 |n+1,a,b,h,c=>by have i:=Y1 n (a / 2) (b / 2) (by omega) (by omega);rw [←Nat.or_div_two,←Nat.xor_div_two,←Nat.and_div_two] at i;have f:=@Nat.or_mod_two_eq_one a b;have g:=@Nat.and_mod_two_eq_one a b;have j:=@Nat.xor_mod_two_eq_one a b;rcases Nat.mod_two_eq_zero_or_one a with e |e<;>rcases Nat.mod_two_eq_zero_or_one b with d |d<;>omega
def oP {a b:Nat}:Builtin.bitOr (a:Int) (b:Int)=((a|||b:Nat):Int):=by
 have n:∀x:Nat,decide (0≤Builtin.bitNot (x:Int))=false:=fun x=>by simp [Builtin.bitNot];omega
 have c:∀x:Int,Builtin.bitNot (Builtin.bitNot x)=x:=fun x=>by simp [Builtin.bitNot];omega
 unfold Builtin.bitOr Builtin.bitAnd;rw [n,n];simp only [c,Ll]
def bx {a b:Nat}:Builtin.bitXor (a:Int) (b:Int)=((a ^^^b:Nat):Int):=by have:=Y1 (a+b) a b (by omega) (by omega);have e:Builtin.bitAnd (a:Int) (b:Int)=((a&&& b:Nat):Int):=rfl;unfold Builtin.bitXor;rw [oP,e];omega
def CM (n:Nat):Int:=A8 8 fun j=>n.testBit j
def oQ:∀n<256,CM n=CM (n / 2)+((n % 2:Nat):Int):=by decide +kernel
def BW (W:Nat) (r:Nat→Bool):Nat:=((List.range W).map fun j=>(if r j then 1 else 0)*2^j).sum
def Y2 {W:Nat} {r:Nat→Bool}:BW (W+1) r=(if r W then 2^W else 0)+BW W r:=by
 unfold BW;rw [Cp,Ca,Dw];simp [Nat.add_comm]
 by_cases e:r W=true<;>simp [e]
def Lc (r:Nat→Bool):∀W,BW W r<2^W∧∀j,(BW W r).testBit j=(decide (j<W)&&r j)
 |0=>by simp [BW]
 |W+1=>by
  obtain ⟨b,h⟩:=Lc r W;rw [Y2];cases e:r W with
  |false=>
   simp only [Cz,if_false,Nat.zero_add];refine ⟨Bn b (E3 (by decide) (by omega)),fun j=>?_⟩;rw [h j]
   by_cases z:j=W
   ·subst z;simp [e]
   ·have:decide (j<W)=decide (j<W+1):=by simp;omega
    rw [this]
  |true=>
   simp only [if_true];have a:2^W+BW W r<2^(W+1):=by rw [Nat.pow_succ];omega
   refine ⟨a,fun j=>?_⟩;rcases Nat.lt_trichotomy j W with z |z |z
   ·rw [Nat.testBit_two_pow_add_gt z,h j];have:decide (j<W)=decide (j<W+1):=by simp;omega
    rw [this]
   ·subst z;rw [Nat.testBit_two_pow_add_eq,h j];simp [e]
   ·rw [Nat.testBit_lt_two_pow (Bn a (E3 (by decide) z))]
    simp;omega
def Y3 {n:Nat} {r:Nat→Bool}:∀{m:Nat},n≤m→(∀j,n≤j→r j=false)→A8 m r=A8 n r
 |0,h,_=>by have:n=0:=by omega
            rw [this]
 |m+1,h,a=>by
  by_cases z:n=m+1
  ·rw [z]
  ·rw [←Y3 (m:=m) (by omega) a];unfold A8;rw [Cp,Ca,Dw];simp [a m (by omega)]
def oR {W c:Nat} {r:Nat→Bool} (a:W≤8) (b:c<2^W):CM (BW W r ^^^c)=A8 W fun j=>Bool.xor (r j) (c.testBit j):=by
 unfold CM;rw [Y3 (n:=W) a]
 ·refine HH fun j h=>?_;rw [Nat.testBit_xor,(Lc r W).2 j];simp [h]
 ·intro j h;rw [Nat.testBit_xor,(Lc r W).2 j,Nat.testBit_lt_two_pow (Bn b (E3 (by decide) h))];simp;omega
def oS {H W:Nat} {f:BF} (d:1≤H) (b:1≤W):Fu ((List.range (2^W)).map fun c=>DW H W (cc W (fun j i=>f i j) fun j=>c.testBit j))=DX H W f:=by
 have k:0<2^W:=Hc (by decide);rw [←jw d b];apply Int.le_antisymm
 ·obtain ⟨R,l,e⟩:=PH (H:=W) (W:=H) (f:=fun i j=>f j i);rw [←e];have h:=Lc R W;refine Pp (qaO.mpr ⟨BW W R,qb3.mpr h.1,?_⟩);have:(cc W (fun j i=>f i j) fun j=>(BW W R).testBit j)=cc W (fun j i=>f i j) R:=by funext i;exact PF fun j g=>by rw [h.2 j];simp [g]
  rw [this]
 ·have a:((List.range (2^W)).map fun c=>DW H W (cc W (fun j i=>f i j) fun j=>c.testBit j))≠[]:=by intro e;have:=congrArg List.length e;simp at this
  obtain ⟨c,h,e⟩:=qaO.mp (Po a);rw [←e,←V5];exact PJ b _ _
def oU {a b:Nat}:((a:Nat):Int) / ((b:Nat):Int)=((a / b:Nat):Int):=rfl
def oV {a b:Nat}:((a:Nat):Int) % ((b:Nat):Int)=((a % b:Nat):Int):=rfl
def Iz (n:Nat):D:=.int (CM n)
def oW (l:Nat) (h:HD) (x:List Nat) (b:Ag) (a:HD):Prop:=∃(j:Nat) (y:Option D),x=(List.range 255).drop j∧j≤255∧b=[some (.loc l),y]∧Sm h a∧a[l]?=some (.lst ((List.range (j+1)).map Iz))
def oX {h:HD} {Q:D→HD→Prop} (q:∀l b,Sm h b→h.length≤l→b[l]?=some (.lst ((List.range 256).map Iz))→Q (.loc l) b):Wp (M6 [] h) Q:=by
 change Wp (Al 2 Xx [] h) _;refine Eq.mpr An ?_;simp [-Ae];refine A4 (by simp) fun l r i m t _=>?_;refine Eq.mpr Ae ?_;refine Eq.mpr Ba ?_;refine CC (src:=[]) (xs:=List.range 255) (fun k=>.int (1+(k:Int))) (oW l h) ?_ (fun u f b _=>Cr) ?_ ?_
 ·simp;rw [show (1:Int)=((1:Nat):Int) from rfl,show (256:Int)=((256:Nat):Int) from rfl,Q9 (by omega) (by omega)];exact ⟨rfl,0,_,rfl,by omega,rfl,i,m⟩
 ·rintro x xs f c ⟨j,y,ex,g,rfl,s,e⟩;obtain ⟨rfl,o,rfl⟩:=D2 ex.symm;refine ⟨_,rfl,?_⟩;rw [show (1:Int)+(x:Int)=((x+1:Nat):Int) by omega];simp [-Int.natCast_add,Ej e];refine AN (KA (by decide) (by decide)) ?_;rw [AE,show (2:Int)=((2:Nat):Int) from rfl,oU];have p:(x+1) / 2<x+1:=by omega
  refine AN (B4 e (k:=(x+1) / 2) (a:=Iz ((x+1) / 2)) (by rw [Cg,D8 p];rfl)) ?_;rw [AE];refine AN (FW (by decide)) ?_;rw [AE,oV];unfold Iz;refine AN (show Ao (.int (CM ((x+1) / 2))) (.int (((x+1) % 2:Nat):Int)) c=.ok (.int (CM ((x+1) / 2)+(((x+1) % 2:Nat):Int))) c from rfl) ?_;rw [AE,←oQ (x+1) (by omega)];refine AN (GE e (by simp;exact Re (by omega))) ?_;have d:l<c.length:=(qa1.mp e).1;simp [B3];refine ⟨x+1,_,rfl,by omega,rfl,Sm.put s (by omega),?_⟩;rw [BP d,Cp (n:=x+1),Ca];rfl
 ·rintro f c ⟨j,y,ex,g,rfl,s,e⟩;have:j=255:=EA g ex.symm;subst this;simp;exact q _ _ s (by omega) e
def NI {i:Int} {n:Nat} (a:i.natAbs<18446744073709551616) (b:n≤1000):Ff (.int i) (.int (n:Nat)) h=.ok (.int (i*2^n)) h:=by
 have:Kl i (n:Int):=⟨by omega,by omega,by omega⟩
 simp only [Ff,LS.intD];rw [if_pos this];simp
def Y4 {r:Nat→Bool}:∀W:Nat,((List.range W).map fun j=>(if r j then (1:Int) else 0)*2^j).sum=((BW W r:Nat):Int)
 |0=>rfl
 |W+1=>by
  rw [Cp,Ca,Dw,Y4 W,Y2]
  by_cases e:r W=true<;>simp [e]
  omega
def Y5 {W:Nat} (h:W≤8):2^W≤256:=E3 (n:=2) (by decide) h
def oY {W N:Nat} (a:W≤1000) (e:2^W=N):Ff (.int 1) (.int (W:Nat)) h=.ok (.int (N:Nat)) h:=by
 rw [NI (by decide) a,Int.one_mul,←e]
 congr 2
def lc (H W:Nat) (f:BF) (c:Nat):Int:=DW H W (cc W (fun j i=>f i j) fun j=>c.testBit j)
def G0 (W:Nat) (f:BF) (i:Nat):D:=.int ((BW W (f i):Nat):Int)
section
variable {H W:Nat} {h:HD} {f:BF}
inductive Y6 (H W N l1 l3 l4:Nat) (f:BF) (h:HD) (xs:List Nat) (ρ:Ag) (h':HD):Prop where
 |mk (j:Nat) (y z:Option D) (ex:xs=(List.range N).drop j) (hj:j≤N) (er:ρ=[some (bD H W f),some (.loc l1),some (.int (W:Nat)),some (.loc l3),some (.loc l4),y,z]) (s:Sm h h') (e1:h'[l1]?=some (.lst ((List.range 256).map Iz))) (e3:h'[l3]?=some (.lst ((List.range H).map (G0 W f)))) (e4:h'[l4]?=some (.lst ((List.range j).map fun c=>.int (lc H W f c)))):Y6 H W N l1 l3 l4 f h xs ρ h'
@[irreducible] def NJ:MS:=AM (Am 6 (Ax [none,some 1,some 5] (A3 (Ad 3)) (AB 0) (AH) (Aa Ah (Ad 1) (Aa P7 (Ad 0) (Ad 2))))) (AU (DS (Ad 4) (Ab (Ai BS) (Ac (Ax [none,some 2] (A3 (Ad 6)) (AB 0) (AH) (Ab (Bo FR) (Ac (Ad 0) (Ac (Aa Cw (Ad 1) (Ad 0)) (Af))))) (Af)))))
def oZ {c d g l:Nat} {r:List D} {y:Option D} {Q:Fl×Ag→HD→Prop} (o:H≤8) (p:W≤8) (t:c<2^W) (A:h[d]?=some (.lst ((List.range 256).map Iz))) (u:h[g]?=some (.lst ((List.range H).map (G0 W f)))) (v:h[l]?=some (.lst r)) (G:r.length≤256)
 (q:∀z j,Sm h j→l<j.length→Q (.nx,[some (bD H W f),some (.loc d),some (.int (W:Nat)),some (.loc g),some (.loc l),some (.int (c:Nat)),z]) (j.set l (.lst (r++[.int (lc H W f c)])))):
 Wp (NJ [some (bD H W f),some (.loc d),some (.int (W:Nat)),some (.loc g),some (.loc l),some (.int (c:Nat)),y] h) Q:=by
 unfold NJ;refine Eq.mpr Ba ?_;refine Eq.mpr Cj ?_;have B:∀i,BW W (f i) ^^^c<256:=fun i=>Bn (Nat.xor_lt_two_pow (Lc (f i) W).1 t) (Y5 p);refine CV (src:=[(g,(List.range H).map (G0 W f))]) (xs:=List.range H) (φ:=G0 W f) (fun _=>true) (fun i=>.int (CM (BW W (f i) ^^^c))) (fun i=>[some (G0 W f i),some (.loc d),some (.int (c:Nat))]) ?_ (sz o) (fun x _=>rfl) (fun x _ b s=>(.ok:Pu (.ok true b) b true)) (fun i _ _ b s=>?_) fun C I m n=>?_
 ·simp [Fx u];exact ⟨.refl _,fun b s=>Di (s _ _ u)⟩
 ·simp only [Pu,Fq,Ei,Dk,G0,Pc,AE];rw [bx];refine AN (B4 (s _ _ A) (k:=BW W (f i) ^^^c) (a:=Iz (BW W (f i) ^^^c)) (by rw [Cg,D8 (B i)];rfl)) ?_;exact ⟨rfl,.refl _⟩
 ·rw [B8] at n;refine Eq.mpr Ae ?_;simp [Ej (m _ _ v)];refine Pu.wp (Pz (src:=[(C,(List.range H).map fun i=>.int (CM (BW W (f i) ^^^c)))]) (xs:=List.range H) (φ:=fun i=>.int (CM (BW W (f i) ^^^c))) (fun i=>if (W:Int) - CM (BW W (f i) ^^^c)<CM (BW W (f i) ^^^c) then (W:Int) - CM (BW W (f i) ^^^c) else CM (BW W (f i) ^^^c)) (fun i=>[some (.int (CM (BW W (f i) ^^^c))),some (.int (W:Nat))]) ?_ (fun x _=>rfl) (fun x J b s=>?_) (sz o)) fun E w=>?_
  ·simp [Bq,Fx n];exact ⟨.refl _,fun b s=>Di (s _ _ n)⟩
  ·simp [Pu,Sm.refl]
  ·have F:((List.range H).map fun i=>if (W:Int) - CM (BW W (f i) ^^^c)<CM (BW W (f i) ^^^c) then (W:Int) - CM (BW W (f i) ^^^c) else CM (BW W (f i) ^^^c)).sum=lc H W f c:=by unfold lc DW;refine FY fun i _=>?_;rw [oR p t];rfl
   rw [F];have e:=w _ _ (m _ _ v);refine AN (GE e (Re (by omega))) ?_;rw [AE];exact q _ E (m.trans w) (qa1.mp e).1
def o1:Qv=AM (C3 (En [1,2]) (AR (Ac (Ab M6 (Af)) (Ac (Ab (Ai Au) (Ac (Aa Ah (Ad 0) (mC (.int 0))) (Af))) (Af))))) (AM (Am 3 (Ax [none] (A3 (Ad 0)) (AB 0) (AH) (Ab (Ai BS) (Ac (Ax [none,none] (Dm (Ac (Ad 0) (Af))) (Bs 0 1) (AH) (Aa Ff (Ad 1) (Ad 0))) (Af))))) (AM (Am 4 (AO (Af))) (AM (BK (BZ (Ac (Aa Ff (mC (.int 1)) (Ad 2)) (Af))) (AB 5) NJ) (Ak (Ab (Ai (Fv Fu)) (Ac (Ad 4) (Af))))))):=by unfold NJ;rfl
def o2 (b:SZ H) (d:SZ W):Pu (Qw [bD H W f] h) h (.int (DX H W f)):=by
 change Wp (Al 7 (Qv) [bD H W f] h) _;rw [o1];refine Eq.mpr An ?_;simp [-Ae];refine oX fun t R u F v=>?_;simp [-Ae,BO b.1,Co];refine Eq.mpr Ae ?_;refine Eq.mpr Ba ?_;refine Eq.mpr Cj ?_;refine CV (src:=[]) (xs:=List.range H) (φ:=fun i=>As W (f i)) (fun _=>true) (G0 W f) (fun i=>[some (As W (f i))]) ?_ (sz b.2) (fun x _=>rfl) (fun x _ a w=>(.ok:Pu (.ok true a) a true)) (fun i _ _ a w=>?_) fun A S s e=>?_
 ·simp [bD,Sm.refl,A7]
 ·simp [Pu];refine Pu.wp (Pz (src:=[]) (xs:=List.range W) (φ:=fun j=>.tup [.int ((j:Nat):Int),lit (f i j)]) (fun j=>(if f i j then (1:Int) else 0)*2^j) (fun j=>[some (.int ((j:Nat):Int)),some (lit (f i j))]) ?_ (fun x _=>rfl) (fun x B a w=>?_) (sz d.2)) fun T G=>?_
  ·simp [Bq,As,FX,Sm.refl,A7]
  ·have B:=qb3.mp B;simp only [Pu,Fq,Ei,Dk,lit,AE];refine AN (NI (by split<;>decide) (by omega)) ?_;exact ⟨rfl,.refl _⟩
  ·unfold G0;rw [Y4];exact ⟨rfl,G⟩
 rw [B8] at e;refine Eq.mpr Ae ?_;simp [-Ae];refine A4 (by simp) fun l U g I J _=>?_;refine Eq.mpr Ae ?_;refine Eq.mpr Ba ?_;obtain ⟨N,k⟩:∃N,2^W=N:=⟨_,rfl⟩
 have X:N≤256:=k ▸ Y5 d.2;have L:l≠t:=by have:=(qa1.mp (s _ _ v)).1;omega
 have M:l≠A:=by have:=(qa1.mp e).1;omega
 have m:h.length≤l:=by have:=(u.trans s).len;omega
 refine CC (src:=[]) (xs:=List.range N) (fun i=>.int ((i:Nat):Int)) (Y6 H W N t A l f h) ?_ (fun Y C a _=>Cr) ?_ ?_
 ·simp;refine AN (oY (by omega) k) ?_;rw [AE,Dl (by omega)];exact ⟨rfl,⟨0,_,_,by simp,by omega,rfl,(u.trans s).trans g,g _ _ (s _ _ v),g _ _ e,I⟩⟩
 ·rintro x xs C O ⟨j,y,z,ex,E,rfl,n,o,p,q⟩;obtain ⟨rfl,P,rfl⟩:=D2 ex.symm;refine ⟨_,rfl,?_⟩;refine oZ b.2 d.2 (by omega) o p q (by simp;omega) fun z Z r Q=>?_;refine ⟨x+1,_,_,rfl,by omega,rfl,Sm.put (n.trans r) m,?_,?_,?_⟩
  ·rw [BI L];exact r _ _ o
  ·rw [BI M];exact r _ _ p
  ·rw [BP Q,Cp,Ca];rfl
 ·rintro C O ⟨j,y,z,ex,E,rfl,n,o,p,q⟩;have:j=N:=EA E ex.symm;subst this;simp;have hp:0<2^W:=Hc (by decide);refine AN (Pt (ns:=(List.range j).map fun c=>lc H W f c) (by rw [q,BQ];rfl) (by simp;omega)) ?_;rw [AE];refine ⟨?_,n⟩;rw [←k];exact congrArg D.int (oS b.1 d.1)
end
def BD (n:Nat) (m:Nat→Int):List D:=(List.range n).map fun k=>.int (m k)
def Y7 {n:Nat} {m a:Nat→Int} (h:∀k,k<n→m k=a k):BD n m=BD n a:=Cf fun k hk=>by rw [h k (by simpa using hk)]
def Y8 {n i:Nat} {m:Nat→Int} {v:Int}:(BD n m).set i (.int v)=BD n fun k=>if k=i then v else m k:=by
 unfold BD;apply G6
 ·simp
 ·intro k a b;simp at a b
  by_cases h:i=k
  ·subst h;simp
  ·rw [List.getElem_set_ne h];simp [show ¬k=i from fun z=>h z.symm]
def Y9 {n i:Nat} {m:Nat→Int} (h:i<n):(BD n m)[i]?=some (.int (m i)):=by simp [BD,D8,h]
def Rn {n:Nat} {m:Nat→Int}:(BD n m).length=n:=by simp [BD]
def Za {h b:HD} {l:Nat} {c:Cell} (s:Sm h b) (e:h[l]?=none):Sm h (b.set l c):=fun k d a=>by
 rw [BI]
 ·exact s k d a
 ·intro z;subst z;rw [e] at a;cases a
def Zb {L:List Int} {c k:Int}:A5 (L.map (·+ c)) k=A5 L (k - c):=by
 unfold A5;rw [BQ];refine FY fun x _=>?_
 show (if x+c=k then (1:Int) else 0)=if x=k - c then 1 else 0
 by_cases h:x+c=k
 ·rw [if_pos h,if_pos (by omega)]
 ·rw [if_neg h,if_neg (by omega)]
def o3 {L M:List Int} {k:Int}:A5 (L++M) k=A5 L k+A5 M k:=by unfold A5;rw [Ca,Dw]
noncomputable def AA (L:List Int) (c d t k:Nat):Int:=(if c≤k∧k<c+t then A5 L ((k:Int) - c) else 0)+(if d≤k∧k<d+t then A5 L ((k:Int) - d) else 0)
def Zd {L:List Int} {c t k:Nat}:(if c≤k∧k<c+(t+1) then A5 L ((k:Int) - c) else 0)=(if c≤k∧k<c+t then A5 L ((k:Int) - c) else 0)+if k=t+c then A5 L t else 0:=by
 by_cases h:k=t+c
 ·rw [if_pos (by omega),if_neg (by omega),if_pos h,show ((k:Int) - c)=t from by omega];omega
 ·by_cases a:c≤k∧k<c+t
  ·rw [if_pos (by omega),if_pos a,if_neg h];omega
  ·rw [if_neg (by omega),if_neg a,if_neg h];rfl
def o5 {L:List Int} {c d t k:Nat}:(if k=t+d then (if k=t+c then AA L c d t k+A5 L t else AA L c d t k)+A5 L t else if k=t+c then AA L c d t k+A5 L t else AA L c d t k)=AA L c d (t+1) k:=by
 unfold AA;rw [Zd (c:=c),Zd (c:=d)]
 split<;>split<;>omega
def o6 {L:List Int} {n c d k:Nat} (a:∀x∈L,0≤x∧x<n):AA L c d n k=A5 (L.map (·+ (c:Int))++L.map (·+ (d:Int))) k:=by
 have z:∀c:Nat,(if c≤k∧k<c+n then A5 L ((k:Int) - c) else 0)=A5 L ((k:Int) - c):=fun c=>by
  by_cases h:c≤k∧k<c+n
  ·rw [if_pos h]
  ·rw [if_neg h,jy];intro b;have:=a _ b;omega
 unfold AA;rw [z,z,o3,Zb,Zb]
def Ze {l k:Nat} {i:Int} (b:i=(k:Int)) (e:h[l]?=some (.lst a)) (c:a[k]?=some d):Jq (.loc l) (.int i) h=.ok d h:=by subst b;exact ji e c
def Zf {h:HD} {l k:Nat} {i:Int} {d:List D} {a b:Int} (f:i=(k:Int)) (e:h[l]?=some (.lst d)) (hk:k<d.length):Jp (.loc l) (.int i) (.int a) (.int b) c h=.ok (.nx,c) (h.set l (.lst (d.set k (.int (a+b))))):=by subst f;exact jj e hk
def o7 (h:HD) (l n c H a:Nat) (L:List Int) (d:List Nat) (e:Ag) (b:HD):Prop:=∃(t:Nat) (x y:Option D),d=(List.range n).drop t∧t≤n∧e=[some (.loc l),some (.int (c:Nat)),some (.int (H:Nat)),some (.loc a),x,y]∧Sm h b∧b[a]?=some (.lst (BD (n+H) (AA L c (H - c) t)))
def o8 {l n c Hn:Nat} {L:List Int} (e:h[l]?=some (.lst (BD n fun k=>A5 L k))) (F:∀x∈L,0≤x∧x<n) (N:n≤200) (O:c≤Hn) (P:Hn≤8):
 ∃f j,M3 [.loc l,.int (c:Nat),.int (Hn:Nat)] h=.ok (.loc f) j∧Sm h j∧j[f]?=some (.lst (BD (n+Hn) fun k=>A5 (L.map (·+ (c:Int))++L.map (·+ ((Hn - c:Nat):Int))) k)):=by
 suffices G:Wp (M3 [.loc l,.int (c:Nat),.int (Hn:Nat)] h) (fun d g=>∃f,d=.loc f∧Sm h g∧g[f]?=some (.lst (BD (n+Hn) fun k=>A5 (L.map (·+ (c:Int))++L.map (·+ ((Hn - c:Nat):Int))) k))) by obtain ⟨d,g,e,f,rfl,q⟩:=G.ex;exact ⟨f,g,e,q⟩
 change Wp (Al 6 Xk [.loc l,.int (c:Nat),.int (Hn:Nat)] h) _;rw [An];simp [-Ae];refine A4 (by simp) fun Q g u H _ _=>?_;rw [GJ (u _ _ e),Rn];simp [-Ae];rw [show ((n:Int)+(Hn:Int))=((n+Hn:Nat):Int) from by omega,Pv H (by omega)];refine A4 (F9 (by simp;omega)) fun m j A I w _=>?_;have b:h[m]?=none:=by
  rw [w];cases q:h[g.length]? with
  |none=>rfl
  |some c=>have:=u _ _ q;simp at this
 rw [Ae,Ba];refine CC (src:=[(l,BD n fun k=>A5 L k)]) (xs:=List.range n) (fun k=>.tup [.int ((k:Nat):Int),.int (A5 L k)]) (o7 h l n c Hn m L) ?_ (fun R B v i=>?_) ?_ ?_
 ·simp;rw [Pq (A _ _ (u _ _ e))];refine ⟨rfl,0,none,none,by simp,by omega,rfl,u.trans A,?_⟩;rw [I]
  congr 2
  unfold BD;apply G6
  ·simp
  ·intro k g j;have z:AA L c (Hn - c) 0 k=0:=by unfold AA;rw [if_neg (by omega),if_neg (by omega)];rfl
   simp [z]
 ·obtain ⟨t,x,y,_,_,_,s,_⟩:=i;exact Di (s _ _ e)
 ·rintro x S B v ⟨t,y,J,ex,C,rfl,s,o⟩;obtain ⟨rfl,M,rfl⟩:=D2 ex.symm;refine ⟨_,rfl,?_⟩;have p:m<v.length:=(qa1.mp o).1;simp;rw [Ze (k:=x+c) (by omega) o (Y9 (by omega))];simp;rw [Zf (k:=x+c) (by omega) o (by rw [Rn];omega),Y8];simp;have E:(v.set m (.lst (BD (n+Hn) fun k=>if k=x+c then AA L c (Hn - c) x (x+c)+A5 L x else AA L c (Hn - c) x k)))[m]?=some (.lst (BD (n+Hn) fun k=>if k=x+c then AA L c (Hn - c) x (x+c)+A5 L x else AA L c (Hn - c) x k)):=by rw [BP p]
  rw [Ze (k:=x+(Hn - c)) (by omega) E (Y9 (by omega))];simp only [AE,Ei,Dk];rw [Zf (k:=x+(Hn - c)) (by omega) E (by rw [Rn];omega),Y8];simp only [AE,B3];refine ⟨x+1,_,_,rfl,by omega,rfl,Za (Za s b) b,?_⟩;rw [BP (by simpa using p)]
  congr 2
  refine Y7 fun k _=>?_;rw [←o5]
  by_cases r:k=x+(Hn - c)
  ·rw [if_pos r,if_pos r];subst r
   by_cases a:x+(Hn - c)=x+c
   ·rw [if_pos a,if_pos a,a]
   ·rw [if_neg a,if_neg a]
  ·rw [if_neg r,if_neg r]
   by_cases a:k=x+c
   ·rw [if_pos a,if_pos a,a]
   ·rw [if_neg a,if_neg a]
 ·rintro B v ⟨t,y,J,ex,C,rfl,s,o⟩;have:t=n:=EA C ex.symm;subst this;simp [s];rw [o]
  congr 2
  exact Y7 fun k _=>by rw [o6 F]
def Zg {j:Nat} {H:Int} {c:Nat→Int} {C:Nat→Bool}:Do (j+1) H c C=Do j H c C+if C j then H - c j else c j:=by unfold Do;rw [Cp,Ca,Dw];simp
def o9 {j:Nat} {H:Int} {c:Nat→Int} {C C':Nat→Bool} (h:∀i,i<j→C i=C' i):Do j H c C=Do j H c C':=FY fun i a=>by rw [h i (by simpa using a)]
def wL (j:Nat) (H:Int) (c:Nat→Int):List Int:=(LL 0 j).map (Do j H c)
def Ro {j:Nat} {H:Int} {c:Nat→Int}:wL (j+1) H c=(wL j H c).map (·+ c j)++(wL j H c).map (·+ (H - c j)):=by
 unfold wL;rw [LL,Ca,BQ,BQ,BQ]
 congr 1
 ·exact Cf fun C h=>by
   show Do (j+1) H c C=Do j H c C+c j
   rw [Zg,HI h j (by omega)];rfl
 ·exact Cf fun C h=>by
   show Do (j+1) H c (ext (0+j) C)=Do j H c C+(H - c j)
   rw [Zg,o9 (C:=ext (0+j) C) (C':=C) fun i a=>if_neg (by omega)];simp [ext]
def NK {Hn:Nat} {c:Nat→Int} (a:∀j,0≤c j∧c j≤Hn):∀(j:Nat) (x:Int),x∈wL j Hn c→0≤x∧x<((1+j*Hn:Nat):Int)
 |0,x,h=>by simp [wL,LL,Do] at h;subst h;simp
 |j+1,x,h=>by
  rw [Ro] at h;have d:(((j+1)*Hn:Nat):Int)=((j*Hn:Nat):Int)+Hn:=by rw [Ha];omega
  have e:=a j;rcases qb1.mp h with z |z
  ·obtain ⟨y,b,rfl⟩:=qaO.mp z;have:=NK a j y b;omega
  ·obtain ⟨y,b,rfl⟩:=qaO.mp z;have:=NK a j y b;omega
def pd (h:HD) (W H:Nat) (c:Nat→Int) (b:List Nat) (d:Ag) (a:HD):Prop:=∃(j l:Nat) (x:Option D),b=(List.range W).drop j∧j≤W∧d=[some (A0 W c),some (.int (H:Nat)),some (.loc l),x]∧Sm h a∧a[l]?=some (.lst (BD (1+j*H) fun k=>A5 (wL j H c) k))
def Zh {W Hn:Nat} {c:Nat→Int} (H:W≤8) (p:Hn≤8) (g:∀j,0≤c j∧c j≤Hn):
 ∃a f,JL [A0 W c,.int (Hn:Nat)] h=.ok (.loc a) f∧Sm h f∧f[a]?=some (.lst (BD (1+W*Hn) fun k=>A5 (wL W Hn c) k)):=by
 suffices w:Wp (JL [A0 W c,.int (Hn:Nat)] h) (fun d b=>∃a,d=.loc a∧Sm h b∧b[a]?=some (.lst (BD (1+W*Hn) fun k=>A5 (wL W Hn c) k))) by obtain ⟨d,b,e,a,rfl,q⟩:=w.ex;exact ⟨a,b,e,q⟩
 change Wp (Al 4 (XB) [A0 W c,.int (Hn:Nat)] h) _;rw [An];simp [-Ae];refine A4 (by simp) fun z b A B _ _=>?_;rw [Ae,Ba];refine CC (src:=[]) (xs:=List.range W) (fun j=>.int (c j)) (pd h W Hn c) ?_ (fun I r t i=>Cr) ?_ ?_
 ·simp [A0];refine ⟨0,z,none,by simp,by omega,rfl,A,?_⟩;rw [B];simp [BD,wL,LL,A5,Do,Cp]
 ·rintro x xs r t ⟨j,l,y,ex,u,rfl,s,m⟩;obtain ⟨rfl,C,rfl⟩:=D2 ex.symm;refine ⟨_,rfl,?_⟩;obtain ⟨cn,v⟩:∃cn:Nat,c x=(cn:Int):=⟨(c x).toNat,by have:=g x;omega⟩
  have n:cn≤Hn:=by have:=g x;omega
  have J:x*Hn≤64:=BJ (Lx (show x≤8 by omega) p) (by decide);obtain ⟨a,f,E,F,o⟩:=o8 (c:=cn) (Hn:=Hn) m (NK g x) (by omega) n p;simp;rw [v,E];simp only [AE,B3];refine ⟨x+1,a,_,rfl,by omega,rfl,s.trans F,?_⟩;rw [o];have G:1+x*Hn+Hn=1+(x+1)*Hn:=by rw [Ha];omega
  rw [G,Ro,v,show ((Hn - cn:Nat):Int)=(Hn:Int) - (cn:Int) from by omega]
 ·rintro r t ⟨j,l,y,ex,u,rfl,s,m⟩;have:j=W:=EA u ex.symm;subst this;simp [s];exact m
@[irreducible] def zE (x y:ME):ME:=Aa BU (AO (Ac (mC (.int 0)) (Af))) (Aa Ao (Aa BU x y) (mC (.int 1)))
def ph {x y:ME} {h:HD} {a b:Int} {n:Nat} {Q:D→HD→Prop} (ex:∀c,x f c=.ok (.int a) c) (g:∀c,y f c=.ok (.int b) c) (u:0≤a∧a<100) (e:a*b+1=(n:Nat)) (i:n≤1000) (q:∀l c,Sm h c→h.length≤l→c[l]?=some (.lst (BD n fun _=>0))→Q (.loc l) c):Wp (zE x y f h) Q:=by
 unfold zE;simp only [Fq,Kw,BM,B2,Jj];refine A4 (by simp) fun v d s j k _=>?_;refine AN (ex d) ?_;rw [AE];refine AN (g d) ?_;rw [AE];refine AN (Jn (by omega) (by omega)) ?_;rw [AE];refine AN (show Ao (.int (a*b)) (.int 1) d=.ok (.int (a*b+1)) d from rfl) ?_;rw [AE,e];refine AN Wn ?_;refine AN (Pv j i) ?_;refine A4 (by simp;unfold sizeLine;omega) fun m o p r t _=>?_;refine q m o (s.trans p) (by have:=s.len;omega) ?_;rw [r]
 congr 2
 unfold BD;rw [List.map_const',J8]
def pj {c:Type} {src:Bj} {m:MI} {n:MG} {t:MT} {f:ME} {o:List (Option Nat)} {h:HD} {xs:List c} {φ:c→D} {Q:D→HD→Prop} (g:c→Bool) (e:c→D) (b:c→Ag) (u:Wp (m d h) fun x a=>x=(xs.map φ,src)∧Sm h a∧∀i,Sm a i→A7 src (xs.map φ) i) (p:xs.length≤sizeLine)
 (v:∀x∈xs,n (φ x) (Cs o d)=some (b x)) (w:∀x∈xs,∀a,Sm h a→Pu (t (b x) a) a (g x)) (y:∀x∈xs,g x=true→∀a,Sm h a→Pu (f (b x) a) a (e x))
 (q:∀l a,Sm h a→a[l]?=some (.lst ((xs.filter g).map e))→h.length≤l→Q (.loc l) a):Wp (Ax o m n t f d h) Q:=by
 unfold Ax;rw [AL];refine Wp.mono u fun x A z=>?_;obtain ⟨ex,s,B⟩:=z;subst ex;rw [if_pos (by simpa using p),AL];refine (Pa φ g e b xs A B v (fun x j a k=>w x j a (s.trans k)) (fun x j C a k=>y x j C a (s.trans k))).wp fun i r=>?_;refine A4 ?_ fun l E F G H _=>q l E ((s.trans r).trans F) G (by have:=(s.trans r).len;omega);rw [Ci];exact BJ (J6 _ _) p
def pq {H W:Nat} {f:BF} {R:Nat→Bool} {k:Int}:A5 (wL W H (cc H f R)) k=hk H W f k R:=rfl
def pv (H W:Nat) (f:BF) (h:HD) (c:Nat) (d:List (Nat→Bool)) (e:Ag) (a:HD):Prop:=∃(b:List (Nat→Bool)) (l:Nat) (x y z:Option D),LL 1 (H - 1)=b++d∧e=[some (bD H W f),some (.int (H:Nat)),some (.loc l),x,y,z]∧Sm h a∧a[c]?=some (.lst (D3 H W (H - 1) f))∧a[l]?=some (.lst (BD (H*W+1) fun k=>(b.map (hk H W f k)).sum))∧h.length≤l
def pw:QX=AM (AU (Ab Ds (Ac (Ad 0) (Af)))) (AM (Am 1 (Ab (Ai Au) (Ac (Ad 0) (Af)))) (AM (Am 2 (zE (Ad 1) (Ab (Ai Au) (Ac (Aa Ah (Ad 0) (mC (.int 0))) (Af))))) (AM (BK (A3 (Ab FD (Ac (Ad 0) (Af)))) (Bs 3 4) (AM (Am 5 (Ab JL (Ac (Ad 4) (Ac (Ad 1) (Af))))) (Am 2 (Ax [none,none] (Fw (Ac (Ad 2) (Ac (Ad 5) (Af)))) (Bs 0 1) (AH) (Aa Ao (Ad 0) (Ad 1)))))) (Ak (Ad 2))))):=by unfold zE;rfl
def pz {H W:Nat} {f:BF} {h:HD} (B:SZ H) (C:SZ W):∃m r,JQ [bD H W f] h=.ok (.loc m) r∧Sm h r∧r[m]?=some (.lst (BD (H*W+1) fun k=>NN H W f k))∧h.length≤m:=by
 suffices Q:Wp (JQ [bD H W f] h) (fun d u=>∃m,d=.loc m∧Sm h u∧u[m]?=some (.lst (BD (H*W+1) fun k=>NN H W f k))∧h.length≤m) by obtain ⟨d,u,e,m,rfl,q⟩:=Q.ex;exact ⟨m,u,e,q⟩
 have hm:H*W≤64:=Lx B.2 C.2;change Wp (Al 6 (QX) [bD H W f] h) _;rw [pw];rw [An];simp [-Ae];refine (Ez B C).wp fun u G=>?_;rw [Ae];simp [-Ae,B9];rw [Ae,Ba];refine Eq.mpr Cj ?_;refine ph (a:=(H:Int)) (b:=(W:Int)) (n:=H*W+1) (fun g=>rfl) (fun g=>?_) ⟨by omega,by omega⟩ (by simp) (by omega) fun S T U X Y=>?_
 ·show (Ab (Ai Au) (Ac (Aa Ah (Ad 0) (mC (.int 0))) Af)) [some (bD H W f),_,_,_,_,_] g=_
  have Z:Ah (bD H W f) (.int 0) g=.ok (As W (f 0)) g:=Jk (by omega);have e0:Aa Ah (Ad 0) (mC (.int 0)) [some (bD H W f),some (.int (H:Nat)),none,none,none,none] g=.ok (As W (f 0)) g:=Z
  show ((Ac (Aa Ah (Ad 0) (mC (.int 0))) Af) _ g).bind _=_
  unfold Ac;rw [e0];simp only [Out.bind_ok,Af,Ai];simp [As]
 simp only [List.set_cons_succ,List.set_cons_zero];rw [Ae,Ba];obtain ⟨I,h4,e4,J,v⟩:=Y0 (f:=f) (h:=T) B C;refine CC (src:=[(I,D3 H W (H - 1) f)]) (xs:=LL 1 (H - 1)) (fun R=>.tup [AV (H - 1+1) R,A0 W (cc H f R)]) (pv H W f h I) ?_ (fun o L g i=>?_) ?_ ?_
 ·simp only [GD,CJ,BM,B2,Dk];rw [e4];simp [Fx v];refine ⟨rfl,[],S,none,none,none,rfl,rfl,(G.trans U).trans J,v,?_,by have:=G.len;omega⟩;rw [J _ _ Y]
  congr 2
 ·obtain ⟨_,_,_,_,_,_,_,_,z,_⟩:=i;exact Di z
 ·rintro R xs L g ⟨o,l,x,y,z,ex,rfl,E,w,F,M⟩;refine ⟨_,rfl,?_⟩;simp [-Ae];obtain ⟨l5,h5,e5,A,s⟩:=Zh (h:=g) (W:=W) (Hn:=H) (c:=cc H f R) C.2 B.2 (fun j=>Mw);rw [e5];simp [-Ae];rw [Ae];simp;have en:1+W*H=H*W+1:=by rw [Kc];omega
  rw [en] at s;refine pj (src:=[(l,BD (H*W+1) fun k=>(o.map (hk H W f k)).sum)]++[(l5,BD (H*W+1) fun k=>A5 (wL W H (cc H f R)) k)]) (xs:=List.range (H*W+1)) (φ:=fun k=>.tup [.int (o.map (hk H W f ((k:Nat):Int))).sum,.int (A5 (wL W H (cc H f R)) ((k:Nat):Int))]) (fun _=>true) (fun k=>.int ((o.map (hk H W f ((k:Nat):Int))).sum+A5 (wL W H (cc H f R)) ((k:Nat):Int))) (fun k=>[some (.int (o.map (hk H W f ((k:Nat):Int))).sum),some (.int (A5 (wL W H (cc H f R)) ((k:Nat):Int)))]) ?_ (F9 (by simp;omega)) (fun k _=>rfl) (fun k _ r s2=>(.ok:Pu (.ok true r) r true)) (fun k _ _ r s2=>?_) fun l6 h6 N O hl6=>?_
  ·simp;rw [KH (Pr (A _ _ F)) (Pr s)];refine ⟨rfl,.refl _,fun h7 P p t=>?_⟩;rcases qa6.mp t with t |t
   ·subst t;exact P _ _ (A _ _ F)
   ·rw [qaG] at t;subst t;exact P _ _ s
  ·simp [Pu,Sm.refl]
  ·rw [B8] at O;simp only [B3];refine ⟨o++[R],l6,_,_,_,by rw [ex];simp,rfl,E.trans (A.trans N),N _ _ (A _ _ w),?_,by have:=(E.trans A).len;omega⟩;rw [O]
   congr 2
   refine Cf fun k _=>?_;dsimp only;rw [Ca,Dw,pq];simp
 ·rintro L g ⟨o,l,x,y,z,ex,rfl,E,w,F,M⟩;simp [E];refine ⟨?_,M⟩;rw [F];have:LL 1 (H - 1)=o:=by rw [ex];simp
  subst this;rfl
def pA {W H:Nat} {c:Nat→Int} (a:W≤8):Pu (Qk [A0 W c,.int (H:Nat)] h) h (AV W (FZ H c)):=by
 change Wp (Al 2 Xj [A0 W c,.int (H:Nat)] h) _;refine Eq.mpr An ?_;simp;refine Pu.wp (iv (src:=[]) (xs:=List.range W) (φ:=fun j=>.tup [.int ((j:Nat):Int),.int (c j)]) (FZ H c) (fun j=>.int ((j:Nat):Int)) (fun j=>[some (.int ((j:Nat):Int)),some (.int (c j)),some (.int (H:Nat))]) ?_ (fun x _=>rfl) (fun x b d s=>?_) (fun x b _ d s=>?_) (sz a)) fun f e=>?_
 ·simp [Bq,A0,FX,Sm.refl,A7]
 ·simp [Pu];rw [Jn (by decide) (by decide)];simp [Sm.refl,FZ]
 ·simp [Pu,Sm.refl]
 ·exact ⟨rfl,e⟩
inductive Zi (H W:Nat) (f:BF) (p:Nat→Bool) (h:HD) (xs:List Nat) (ρ:Ag) (h':HD):Prop where
 |mk (R:Nat→Bool) (x:Option D) (f0:ρ=[some (bD H W f),some (AV H p),some (A0 W (cc H f R)),x]) (f1:Sm h h') (f2:xs.Nodup) (f3:∀i∈xs,i<H∧R i=false) (f4:∀i,i<H→(p i=true↔(R i=true∨i∈xs))):Zi H W f p h xs ρ h'
def pB (e:SZ H) (c:SZ W):Pu (QR [bD H W f,AV H p] h) h (A0 W (cc H f p)):=by
 change Wp (Al 4 (X7) [bD H W f,AV H p] h) _;refine Eq.mpr An ?_;simp [-Ae];refine (Ez e c).wp fun A o=>?_;refine Eq.mpr Ae ?_;simp [-Ae,B9];refine p_is_lot.wp fun B q=>?_;simp [-Ae];refine Eq.mpr Ae ?_;simp [-Ae];refine (YX e c).wp fun C r=>?_;refine Eq.mpr Ae ?_;refine Eq.mpr Ba ?_;refine CC (src:=[]) (xs:=(List.range H).filter p) (fun i=>.int ((i:Nat):Int)) (Zi H W f p h) ?_ (fun E g k _=>Cr) ?_ ?_
 ·simp only [GD,Ei,Dk,AV,ij,AE];refine ⟨trivial,fun _=>false,none,?_,(o.trans q).trans r,List.Pairwise.filter _ Lp,fun i a=>⟨by simpa using (qbQ.mp a).1,rfl⟩,fun i a=>?_⟩
  ·have:A0 W (cc H f fun _=>false)=.tup ((List.range W).map fun j=>.int (A8 H fun i=>f i j)):=Iw (W:=W) fun j _=>HH fun i _=>by simp
   rw [this];rfl
  ·simp [a]
 ·rintro x F g k ⟨R,y,rfl,s,n,b,d⟩;refine ⟨_,rfl,?_⟩;obtain ⟨l,t⟩:=b x AX;rw [qbH] at n;simp;unfold bD;rw [GF l];simp;refine (YY c.2).wp fun G u=>?_;simp only [B3];refine ⟨ext x R,some (.int (x:Nat)),?_,s.trans u,n.2,fun i a=>⟨(b i (A2 _ a)).1,?_⟩,fun i a=>?_⟩
  ·have:A0 W (cc H f (ext x R))=A0 W fun j=>cc H f R j+1 - 2*(if f x j then 1 else 0):=Iw fun j _=>YZ l t;rw [this];rfl
  ·unfold ext;rw [if_neg]
   ·exact (b i (A2 _ a)).2
   ·intro z;subst z;exact n.1 a
  ·rw [d i a];unfold ext
   by_cases m:i=x
   ·simp [m]
   ·simp [m]
 ·rintro g k ⟨R,y,rfl,s,n,b,d⟩;simp [s];refine Iw fun j _=>PF fun i a=>?_;have:=d i a;simp at this;cases v:p i<;>cases w:R i<;>simp [v,w] at this<;>rfl
def pC (b:SZ H) (a:SZ W):Pu (QW [bD H W f,AV H p] h) h (AV W (FZ H (cc H f p))):=by change Wp (Al 2 (Ya) [bD H W f,AV H p] h) _;refine Eq.mpr An ?_;simp;refine (pB b a).wp fun d s=>?_;simp [B9];refine (pA a.2).wp fun e c=>?_;simp [s.trans c]
def mn (H x:Int):Int:=if H - x<x then H - x else x
def SS (H:Int):Nat→Int→Int
 |0,x=>mn H x
 |n+1,x=>SS H n x+SS H n (x+1)
def Rp {H:Int} (h:0≤H):∀(n:Nat) (x:Int),0≤x→x+n≤H→0≤SS H n x∧SS H n x≤2^n*H
 |0,x,c,d=>by
  simp only [SS,mn]
  split<;>simp<;>omega
 |n+1,x,c,d=>by have a:=Rp h n x c (by omega);have b:=Rp h n (x+1) (by omega) (by omega);simp only [SS];rw [Int.pow_succ,Int.mul_assoc,Int.mul_comm 2,←Int.mul_assoc];omega
def Zj {a:Type} {f g:a→Int}:∀{l:List a},(l.map fun x=>f x+g x).sum=(l.map f).sum+(l.map g).sum
 |[]=>rfl
 |x::l=>by simp [Zj (l:=l)];omega
def pD {N:Nat} {x:Int} (h:0≤x∧x<N) (b:Int→Int):((List.range N).map fun k=>(if x=((k:Nat):Int) then (1:Int) else 0)*b ((k:Nat):Int)).sum=b x:=by
 induction N with
 |zero=>omega
 |succ N i=>
  rw [Cp,Ca,Dw]
  by_cases e:x=(N:Int)
  ·have z:((List.range N).map fun k=>(if x=((k:Nat):Int) then (1:Int) else 0)*b ((k:Nat):Int))=(List.range N).map fun _=>(0:Int):=Cf fun k hk=>by have:=qb3.mp hk;rw [if_neg (by omega),Int.zero_mul]
   rw [z];have:((List.range N).map fun _=>(0:Int)).sum=0:=by
    generalize List.range N=l
    induction l with
    |nil=>rfl
    |cons a l i=>simpa using i
   rw [this];simp [e]
  ·rw [i (by omega)];simp [e]
def pE {L:List Int} {x k:Int}:A5 (x::L) k=(if x=k then 1 else 0)+A5 L k:=by simp [A5]
def Zk {N:Nat} (b:Int→Int):∀{L:List Int},(∀x∈L,0≤x∧x<N)→((List.range N).map fun k=>A5 L ((k:Nat):Int)*b ((k:Nat):Int)).sum=(L.map b).sum
 |[],_=>by
  have:((List.range N).map fun k=>A5 [] ((k:Nat):Int)*b ((k:Nat):Int))=(List.range N).map fun _=>(0:Int):=Cf fun k _=>by simp [A5]
  rw [this];generalize List.range N=l
  induction l with
  |nil=>rfl
  |cons a l i=>simpa using i
 |x::L,h=>by
  have:((List.range N).map fun k=>A5 (x::L) ((k:Nat):Int)*b ((k:Nat):Int))=(List.range N).map fun k=>(if x=((k:Nat):Int) then (1:Int) else 0)*b ((k:Nat):Int)+A5 L ((k:Nat):Int)*b ((k:Nat):Int):=Cf fun k _=>by rw [pE,Int.add_mul]
  rw [this,Zj,pD (h x AX),Zk b fun y c=>h y (A2 _ c)];simp
def AS (W:Nat) (H:Int) (n:Nat) (c:Nat→Int):Int:=((List.range W).map fun j=>SS H n (c j)).sum
def Zl {W:Nat} {H:Int} (h:0≤H∧H≤8) {n:Nat} (d:n≤8) {c:Nat→Int} (b:∀j,0≤c j∧c j+n≤H):0≤AS W H n c∧AS W H n c≤W*2048:=by
 unfold AS;have k:∀j,0≤SS H n (c j)∧SS H n (c j)≤2048:=fun j=>by
  have a:=Rp h.1 n (c j) (b j).1 (b j).2;have p:(2:Int)^n≤2^8:=by exact_mod_cast E3 (n:=2) (by decide) d
  have q:(2:Int)^n*H≤2^8*8:=by refine Int.le_trans (Int.mul_le_mul_of_nonneg_right p h.1) (Int.mul_le_mul_of_nonneg_left h.2 (by decide))
  exact ⟨a.1,Int.le_trans a.2 q⟩
 induction W with
 |zero=>simp
 |succ W i=>
  rw [Cp,Ca,Dw];have:=k W;simp;constructor
  ·omega
  ·have:=i.2;omega
def pF (x e:Option D) (a b:Nat) (h:HD) (m:Nat) (f:Ag) (g:HD):Prop:=∃d c:Nat,f=[x,e,some (.int (d:Nat)),some (.int (c:Nat))]∧g=h∧Nat.gcd d c=Nat.gcd a b∧c=m
def pG {x e:Option D} {a b:Nat} {Q:Fl×Ag→HD→Prop} (j:b<100000) (q:Q (.nx,[x,e,some (.int ((Nat.gcd a b:Nat):Int)),some (.int 0)]) h):
 Wp (HG (Aq (Aa Gv (Ad 3) (mC (.int 0)))) (Eh 2 3 (Ac (Ad 3) (Ac (Aa DA (Ad 2) (Ad 3)) (Af)))) [x,e,some (.int (a:Nat)),some (.int (b:Nat))] h) Q:=by
 refine V0 (pF x e a b h) b j ⟨a,b,rfl,rfl,rfl,rfl⟩ ?_;rintro m k l ⟨g,c,rfl,rfl,f,rfl⟩;simp
 by_cases i:0<c
 ·have d:(0:Int)<(c:Int):=by omega
  simp [d,i];rw [FW d];simp [B3];refine ⟨g % c,Nat.mod_lt _ i,c,g % c,by simp,rfl,?_,rfl⟩;rw [←f,Nat.gcd_comm c,←Nat.gcd_rec,Nat.gcd_comm]
 ·have:c=0:=by omega
  subst this;rw [Nat.gcd_zero_right] at f;simp;rw [f];exact q
@[irreducible] def G1 (T B:Nat):D:=.tup [.int ((T / Nat.gcd T B:Nat):Int),.int ((B / Nat.gcd T B:Nat):Int)]
def pH {T B:Nat} (b:T<100000) (a:0<B) (c:B<100000):Pu (KY [.int (T:Nat),.int (B:Nat)] h) h (G1 T B):=by change Wp (Al 4 Xl [.int (T:Nat),.int (B:Nat)] h) _;rw [An];simp [-Ae];rw [Ae,Ba];refine pG b ?_;have e:0<Nat.gcd B T:=Nat.gcd_pos_of_pos_left _ a;have d:Nat.gcd B T≤B:=Nat.gcd_le_left _ a;rw [Ae];simp;rw [KA (by omega) (by omega)];simp;rw [KA (by omega) (by omega)];simp [G1,Sm.refl,Nat.gcd_comm]
def Rq {k:Nat} {d:List D} (a:d≠[]) (hk:k≤1000) (b:d.length*k≤1000):BU (.tup d) (.int (k:Nat)) h=.ok (.tup (List.replicate k d).flatten) h:=by simp only [BU];rw [if_pos ⟨a,by omega,by omega,by simpa using F9 b⟩];simp
def Rr {n:Nat}:D.tup (List.replicate n [D.int 0]).flatten=A0 n fun _=>0:=by
 unfold A0
 congr 1
 induction n with
 |zero=>rfl
 |succ n i=>rw [List.replicate_succ',List.flatten_append,i,Cp,Ca];rfl
def Rt {b:Type} {a:List b} {n:b→Int} {l:Nat} (e:h[l]?=some (.lst (a.map fun x=>.int (n x)))):BS (.loc l) h=.ok (.int (a.map n).sum) h:=by
 have:BS (.loc l) h=BS (.tup (a.map fun x=>.int (n x))) h:=by simp only [BS,BB,e]
 rw [this,Pd]
def Ru {H:Int}:∀(n:Nat) (x:Int),((wL n ((1:Nat):Int) fun _=>0).map fun k=>mn H (x+k)).sum=SS H n x
 |0,x=>by simp [wL,LL,Do,SS]
 |n+1,x=>by
  rw [Ro,Ca,Dw,BQ,BQ];simp only [SS];rw [←Ru n x,←Ru n (x+1)]
  congr 1
  ·congr 1
   exact Cf fun k _=>by simp
  ·congr 1
   exact Cf fun k _=>by
    show mn H (x+(k+(((1:Nat):Int) - 0)))=mn H (x+1+k)
    congr 1
    omega
@[irreducible] def Rv (x:Int) (n Hn:Nat) (h:HD):Prop:=Pu (Qz [.int x,.int (n:Nat),.int (Hn:Nat)] h) h (.int (SS Hn n x))
def pI {x:Int} {n Hn:Nat} (d:n≤8) (q:Hn≤8) (f:0≤x∧x≤8):Rv x n Hn h:=by
 unfold Rv;change Wp (Al 4 (XI) [.int x,.int (n:Nat),.int (Hn:Nat)] h) _;rw [An];simp [-Ae];rw [Rq (by simp) (by omega) (by simp;omega),Rr];simp only [AE];obtain ⟨l,r,e,g,a⟩:=Zh (h:=h) (W:=n) (Hn:=1) (c:=fun _=>0) d (by decide) (fun j=>⟨by decide,by decide⟩);rw [show ((1:Int))=((1:Nat):Int) from rfl,e,AE,Ae];rw [Hv,CJ,BM];refine CV (src:=[(l,BD (1+n*1) fun k=>A5 (wL n ((1:Nat):Int) fun _=>0) ((k:Nat):Int))]) (xs:=List.range (1+n*1)) (φ:=fun k=>.tup [.int ((k:Nat):Int),.int (A5 (wL n ((1:Nat):Int) fun _=>0) ((k:Nat):Int))]) (fun _=>true)
  (fun k=>.int (A5 (wL n ((1:Nat):Int) fun _=>0) ((k:Nat):Int)*mn Hn (x+(k:Int)))) (fun k=>[some (.int ((k:Nat):Int)),some (.int (A5 (wL n ((1:Nat):Int) fun _=>0) ((k:Nat):Int))),some (.int x),some (.int (Hn:Nat))]) ?_ (by simp;unfold sizeLine;omega) (fun x _=>rfl) (fun x f i m=>.ok) (fun k hk _ i m=>?_) fun t o s b=>?_
 ·simp only [je,BM,Ei,Dk,B2];rw [Pq (n:=1+n*1) (e:=fun k=>.int (A5 (wL n ((1:Nat):Int) fun _=>0) ((k:Nat):Int))) a];exact ⟨rfl,.refl _,fun o s=>Di (s _ _ a)⟩
 ·have p:k<1+n*1:=by simpa using hk
  have em:(if (Hn:Int) - x - (k:Int)<x+(k:Int) then (Hn:Int) - x - (k:Int) else x+(k:Int))=mn Hn (x+(k:Int)):=by unfold mn;rw [show (Hn:Int) - x - (k:Int)=(Hn:Int) - (x+(k:Int)) by omega]
  simp only [Pu,Fq,Ei,Dk,CJ,BM,B2,AE,ih,Pc,ie,ik,kb];rw [Jm (by split<;>omega) (by split<;>omega),em];exact ⟨rfl,.refl _⟩
 ·rw [B8] at b;simp only [B2,Kz];rw [Rt b,Zk (fun k=>mn Hn (x+k)) (NK (Hn:=1) (fun j=>⟨by decide,by decide⟩) n),Ru];exact ⟨rfl,g.trans s⟩
def Zm {W n H:Nat} {c:Nat→Int} (i:W≤8) (b:n≤8) (d:H≤8) (f:∀j,0≤c j∧c j≤8):Pu (Na [A0 W c,.int (n:Nat),.int (H:Nat)] h) h (.int (AS W H n c)):=by
 change Wp (Al 3 (XO) [A0 W c,.int (n:Nat),.int (H:Nat)] h) _;rw [An,Hv,CJ,BM];refine CV (src:=[]) (xs:=List.range W) (φ:=fun j=>.int (c j)) (fun _=>true) (fun j=>.int (SS H n (c j))) (fun j=>[some (.int (c j)),some (.int (n:Nat)),some (.int (H:Nat))]) ?_ (by simp;unfold sizeLine;omega) (fun x _=>rfl) (fun x l a s=>.ok) (fun k hk _ a s=>?_) fun m o g e=>?_
 ·simp [A0,Sm.refl,A7]
 ·unfold Pu;rw [CJ,BM,Dk,BM,Ei,Dk,BM,Ei,Ei,Dk,B2];have t:=pI (h:=a) b d (f k);unfold Rv Pu at t
  assumption
 ·rw [B8] at e;simp only [B2,Kz];rw [Rt e];exact ⟨rfl,g⟩
def Zn {W:Nat} {c e:Nat→Int} {s:Bj} (g:W≤8) (d:∀a,Sm h a→C4 x a=some ((List.range W).map fun j=>.int (e j),s)) (i:∀a,Sm h a→A7 s [] a):Pu (M4 [A0 W c,x] h) h (A0 W fun j=>c j+e j):=by
 change Wp (Al 2 Xm [A0 W c,x] h) _;refine Eq.mpr An ?_;simp;refine Pu.wp (Ek (src:=[]++s) (xs:=List.range W) (φ:=fun j=>.tup [.int (c j),.int (e j)]) (fun j=>.int (c j+e j)) (fun j=>[some (.int (c j)),some (.int (e j))]) ?_ (fun x _=>rfl) (fun x d a k=>?_) (sz g)) fun f b=>?_
 ·simp [Bq];refine AN (KH (n:=W) (e:=fun j=>.int (c j)) (e':=fun j=>.int (e j)) (show C4 (A0 W c) h=some (_,[]) from HF) (d h (.refl _))) ?_;exact ⟨rfl,.refl _,fun f b=>i f b⟩
 ·simp [Pu,Sm.refl]
 ·exact ⟨rfl,b⟩
def nx (c:Nat→Int) (r:Nat→Bool) (t:Bool):Nat→Int:=fun j=>c j+if Bool.xor t (r j) then 1 else 0
def tn (W H n:Nat) (c:Nat→Int) (r:Nat→Bool):Bool:=decide (AS W H n (nx c r true)<AS W H n (nx c r false))
def cR (f:BF) (W H:Nat):Nat→Nat→Int
 |0=>fun _=>0
 |i+1=>nx (cR f W H i) (f i) (tn W H (H - i - 1) (cR f W H i) (f i))
def tR (f:BF) (W H i:Nat):Bool:=tn W H (H - i - 1) (cR f W H i) (f i)
def Rw {c:Nat→Int} {r:Nat→Bool} {t:Bool} {k:Nat} (h:∀j,0≤c j∧c j≤k) (j:Nat):0≤nx c r t j∧nx c r t j≤(k+1:Nat):=by
 have:=h j;unfold nx
 split<;>omega
def Zo {f:BF} {W H:Nat}:∀(i j:Nat),0≤cR f W H i j∧cR f W H i j≤(i:Int)
 |0,j=>by simp [cR]
 |i+1,j=>Rw (Zo i) j
def tD (t:Bool):D:=.int (if t then 1 else 0)
def NL (f:BF) (W H i:Nat):D:=.tup [tD (tR f W H i),G1 (AS W H (H - i - 1) (cR f W H (i+1))).toNat (2^(H - i - 1))]
def Rx {n:Nat} (h:n≤8):2^n≤256:=BJ (E3 (n:=2) (by decide) h) (by decide)
def Zp {T:Int} {n:Nat} (b:0≤T) (c:T<100000) (a:n≤8):Pu (KY [.int T,.int (1*2^n)] h) h (G1 T.toNat (2^n)):=by
 obtain ⟨k,rfl⟩:∃k:Nat,T=(k:Int):=⟨T.toNat,by omega⟩
 have:=Rx a;have e:(1:Int)*2^n=((2^n:Nat):Int):=by simp
 rw [e];exact pH (by omega) (Hc (by decide)) (by omega)
def Zq {l:Nat} {a b:D} {t:Bool} (e:h[l]?=some (.lst [a,b])):Ah (.loc l) (tD t) h=.ok (if t=true then b else a) h:=by
 cases t
 ·exact B4 (k:=0) e rfl
 ·exact B4 (k:=1) e rfl
section
variable {f:BF} {W H:Nat} {h:HD}
inductive Zr (f:BF) (W H:Nat) (h:HD) (l:Nat) (xs:List Nat) (ρ:Ag) (h':HD):Prop where
 |mk (i:Nat) (d4 d5 d6 d7 d8 d9:Option D) (ex:xs=(List.range H).drop i) (hi:i≤H) (er:ρ=[some (bD H W f),some (.int (H:Nat)),some (A0 W (cR f W H i)),some (.loc l),d4,d5,d6,d7,d8,d9]) (s:Sm h h') (hl:h.length≤l)
  (e:h'[l]?=some (.lst ((List.range i).map (NL f W H)))):Zr f W H h l xs ρ h'
def pJ {Q:D→HD→Prop} (A:SZ H) (o:SZ W) (q:∀l d,Sm h d→h.length≤l→d[l]?=some (.lst ((List.range H).map (NL f W H)))→Q (.loc l) d):Wp (QK [bD H W f] h) Q:=by
 change Wp (Al 10 (X0) [bD H W f] h) _;refine Eq.mpr An ?_;simp [-Ae];refine (Ez A o).wp fun h1 N=>?_;refine Eq.mpr Ae ?_;simp [-Ae,B9];refine Eq.mpr Ae ?_;simp [-Ae];refine AN (BO A.1) ?_;simp [-Ae,Co];refine AN (Rq (by simp) (by omega) (by simp;omega)) ?_;rw [Rr];simp [-Ae];refine Eq.mpr Ae ?_;simp [-Ae];refine A4 (by simp) fun l O p U X _=>?_;refine Eq.mpr Ae ?_;refine Eq.mpr Ba ?_;refine CC (src:=[]) (xs:=List.range H) (fun i=>.tup [.int ((i:Nat):Int),As W (f i)]) (Zr f W H h l) ?_ (fun ys m d _=>Cr) ?_ ?_
 ·simp [bD,FX];exact ⟨0,none,none,none,none,none,none,by simp,by omega,rfl,N.trans p,by rw [X];exact N.len,by simpa using U⟩
 ·rintro x xs m d ⟨i,Y,Z,d6,d7,d8,d9,ex,P,rfl,s,y,e⟩;obtain ⟨rfl,hi',rfl⟩:=D2 ex.symm;refine ⟨_,rfl,?_⟩;have R:=Zo (f:=f) (W:=W) (H:=H) x;have B:∀t j,0≤nx (cR f W H x) (f x) t j∧nx (cR f W H x) (f x) t j≤8:=fun t j=>by have:=Rw (r:=f x) (t:=t) R j;omega
  have ab:∀t,0≤AS W H (H - x - 1) (nx (cR f W H x) (f x) t)∧AS W H (H - x - 1) (nx (cR f W H x) (f x) t)<100000:=fun t=>by
   have:=Zl (W:=W) (H:=H) (n:=H - x - 1) ⟨by omega,by omega⟩ (by omega) (c:=nx (cR f W H x) (f x) t) fun j=>by have:=Rw (r:=f x) (t:=t) R j;omega
   omega
  simp [-Ae];rw [show (H:Int) - (x:Int) - 1=((H - x - 1:Nat):Int) by omega];refine Eq.mpr Ae ?_;simp [-Ae];refine (Zn (c:=cR f W H x) (e:=fun j=>if f x j then 1 else 0) (s:=[]) o.2 (fun d _=>rfl) (fun d _=>Cr)).wp fun h3 s3=>?_;refine CV (src:=[]) (xs:=List.range W) (φ:=fun j=>lit (f x j)) (fun _=>true) (fun j=>.int (1 - if f x j then 1 else 0)) (fun j=>[some (lit (f x j))]) ?_ (sz o.2) (fun x _=>rfl) (fun x hx d g=>.ok) (fun j hj _ d g=>?_) fun l4 h4 s4 C=>?_
  ·simp [As,Sm.refl,A7]
  ·simp [Pu,lit,Sm.refl]
  rw [B8] at C;refine (Zn (c:=cR f W H x) (e:=fun j=>1 - if f x j then 1 else 0) (s:=[(l4,_)]) o.2 (fun d g=>Pr (g _ _ C)) (fun d g=>Di (g _ _ C))).wp fun h5 s5=>?_;have n0:(A0 W fun j=>cR f W H x j+if f x j then 1 else 0)=A0 W (nx (cR f W H x) (f x) false):=Iw fun j _=>by simp [nx]
  have n1:(A0 W fun j=>cR f W H x j+(1 - if f x j then 1 else 0))=A0 W (nx (cR f W H x) (f x) true):=Iw fun j _=>by simp [nx];split<;>simp_all
  rw [n0,n1];refine A4 (by simp) fun l6 h6 s6 E _ _=>?_;refine Eq.mpr Ae ?_;refine Eq.mpr Ba ?_;refine Eq.mpr Cj ?_;refine CV (src:=[(l6,[A0 W (nx (cR f W H x) (f x) false),A0 W (nx (cR f W H x) (f x) true)])]) (xs:=[false,true]) (φ:=fun t=>A0 W (nx (cR f W H x) (f x) t)) (fun _=>true) (fun t=>.int (AS W H (H - x - 1) (nx (cR f W H x) (f x) t)))
   (fun t=>[some (A0 W (nx (cR f W H x) (f x) t)),some (.int ((H - x - 1:Nat):Int)),some (.int (H:Nat))]) ?_ (by simp) (fun x _=>rfl) (fun x hx d g=>.ok) (fun t ht _ d g=>?_) fun l7 F S z=>?_
  ·simp;refine AN (Fx E) ?_;exact ⟨rfl,.refl _,fun O p=>Di (p _ _ E)⟩
  ·simp [Pu];exact (Zm o.2 (by omega) A.2 (B t)).wp fun O p=>⟨rfl,p⟩
  rw [B8] at z;have G:=S _ _ E;refine Eq.mpr Ae ?_;simp [-Ae];refine AN (B4 (k:=1) z rfl) ?_;simp [-Ae];refine AN (B4 (k:=0) z rfl) ?_;simp [-Ae];have u:∀(Q:D→HD→Prop) (m:Ag),Q (tD (tR f W H x)) F→Wp (if AS W H (H - x - 1) (nx (cR f W H x) (f x) true)<AS W H (H - x - 1) (nx (cR f W H x) (f x) false) then mC (.int 1) m F else mC (.int 0) m F) Q:=fun Q m v=>by
   unfold tR tn tD at v;split
   ·rename_i I;rw [decide_eq_true I] at v;exact v
   ·rename_i I;rw [decide_eq_false I] at v;exact v
  refine u _ _ ?_;refine Eq.mpr Ae ?_;simp [-Ae];refine AN (Zq G) ?_;have ec:(if tR f W H x=true then A0 W (nx (cR f W H x) (f x) true) else A0 W (nx (cR f W H x) (f x) false))=A0 W (cR f W H (x+1)):=by
   show _=A0 W (nx (cR f W H x) (f x) (tR f W H x))
   split<;>simp_all
  rw [ec]
  try simp [-Ae]
  refine Eq.mpr Ae ?_;have T:=(((s3.trans s4).trans s5).trans s6).trans S;have J:=T _ _ e;simp;refine AN (Ej J) ?_;simp;refine AN (Zq (a:=.int (AS W H (H - x - 1) (nx (cR f W H x) (f x) false))) (b:=.int (AS W H (H - x - 1) (nx (cR f W H x) (f x) true))) z) ?_;have es:(if tR f W H x=true then D.int (AS W H (H - x - 1) (nx (cR f W H x) (f x) true)) else D.int (AS W H (H - x - 1) (nx (cR f W H x) (f x) false)))=.int (AS W H (H - x - 1) (cR f W H (x+1))):=by
   show _=D.int (AS W H (H - x - 1) (nx (cR f W H x) (f x) (tR f W H x)))
   split<;>simp_all
  rw [es];simp;refine AN (NI (by decide) (by omega)) ?_;simp only [AE];have w:0≤AS W H (H - x - 1) (cR f W H (x+1))∧AS W H (H - x - 1) (cR f W H (x+1))<100000:=ab (tR f W H x);refine (Zp w.1 w.2 (by omega)).wp fun h8 L=>?_
  try simp
  refine AN (GE (L _ _ J) (by simp;unfold sizeLine;omega)) ?_;simp only [AE,B3];have M:l<h8.length:=(qa1.mp (L _ _ J)).1;refine ⟨x+1,_,_,_,_,_,_,rfl,by omega,rfl,Sm.put ((s.trans T).trans L) y,y,?_⟩;rw [BP M,Cp,Ca];rfl
 ·rintro m d ⟨i,Y,Z,d6,d7,d8,d9,ex,P,rfl,s,y,e⟩;have:i=H:=EA P ex.symm;subst this;refine Eq.mpr Ae ?_;simp;exact q l d s y e
end
section
variable {f:BF} {W H:Nat} {h:HD}
def Zs {i a b:Int} (c:a≤i) (d:i≤b):Pu (M9 [.int i,.int a,.int b] h) h .non:=by change Wp (Al 3 (XH) [.int i,.int a,.int b] h) _;rw [An];simp;refine wJ.wp fun e s=>?_;simp [c,d,s]
def pK {b:Bool}:Az (tD b) (.int 1) h=.ok (.bl b) h:=by cases b<;>rfl
def Zt (a:SZ H) (b:SZ W):Pu (Nn [bD H W f] h) h (.tup [AV H (tR f W H),AV W (FZ H (cc H f (tR f W H)))]):=by
 change Wp (Al 3 (Yc) [bD H W f] h) _;refine Eq.mpr An ?_;simp [-Ae];refine pJ a b fun l n c _ e=>?_;refine Eq.mpr Ae ?_;refine Eq.mpr Ba ?_;refine Eq.mpr Cj ?_;refine Pu.wp (Hw (src:=[(l,(List.range H).map (NL f W H))]) (xs:=List.range H) (φ:=fun i=>.tup [.int ((i:Nat):Int),NL f W H i]) (tR f W H) (fun i=>.int ((i:Nat):Int))
  (fun i=>[some (.int ((i:Nat):Int)),some (tD (tR f W H i)),some (G1 (AS W H (H - i - 1) (cR f W H (i+1))).toNat (2^(H - i - 1)))]) ?_ (sz a.2) (fun x _=>rfl) (fun x d g j=>?_) (fun x d _ g j=>?_)) fun k s=>?_
 ·simp;refine AN (Pq e) ?_;exact ⟨rfl,.refl _,fun k s=>Di (s _ _ e)⟩
 ·simp [Pu,pK,Sm.refl]
 ·simp [Pu,Sm.refl]
 refine Eq.mpr Ae ?_;simp;refine (pC (p:=tR f W H) a b).wp fun o m=>?_;simp [(c.trans s).trans m];rfl
end
section
variable {f:BF} {W H:Nat} {h:HD}
def MT (H W:Nat):Nat:=(AS W H H fun _=>0).toNat
def Zu {H W:Nat} (a:H≤8) (b:W≤8):0≤AS W H H (fun _=>0)∧AS W H H (fun _=>0)≤8*2048:=by have:=Zl (W:=W) (H:=H) (n:=H) (by omega) a (c:=fun _=>0) (fun j=>by omega);omega
def pL (b:SZ H) (c:SZ W):Pu (QE [.int (H:Nat),.int (W:Nat)] h) h .non:=by
 change Wp (Al 2 (XN) [.int (H:Nat),.int (W:Nat)] h) _;refine Eq.mpr An ?_;simp;refine (Zs (by omega) (by omega)).wp fun d s=>?_;refine (Zs (by omega) (by omega)).wp fun e a=>?_
 first |exact ⟨rfl,s.trans a⟩ |exact s.trans a
def Zv (a:SZ H) (c:SZ W):Pu (Ng [.int (H:Nat),.int (W:Nat)] h) h (G1 (MT H W) (2^H)):=by change Wp (Al 2 (XR) [.int (H:Nat),.int (W:Nat)] h) _;refine Eq.mpr An ?_;simp;refine (pL a c).wp fun g s=>?_;refine AN (Rq (by simp) (by omega) (by simp;omega)) ?_;rw [Rr];simp;refine (Zm c.2 a.2 a.2 (fun j=>by omega)).wp fun i d=>?_;have b:=Zu a.2 c.2;refine AN (NI (by decide) (by omega)) ?_;rw [AE];refine (Zp b.1 (by omega) a.2).wp fun k e=>?_;exact ⟨rfl,(s.trans d).trans e⟩
def FJ (T B:Nat):Int:=((T / Nat.gcd T B:Nat):Int) / ((B / Nat.gcd T B:Nat):Int)
def pM {T B:Nat} (a:0<B):0<B / Nat.gcd T B:=Nat.div_pos (Nat.gcd_le_right _ a) (Nat.gcd_pos_of_pos_right _ a)
def pN {T B:Nat}:B / Nat.gcd T B≤B:=Nat.div_le_self _ _
def Zw (b:SZ H) (c:SZ W):Pu (Nh [.int (H:Nat),.int (W:Nat)] h) h (.int (min (FJ (MT H W) (2^H)) (FJ (MT W H) (2^W)))):=by
 change Wp (Al 2 (XT) [.int (H:Nat),.int (W:Nat)] h) _;rw [An,Hv,CJ,BM];have i:=Rx b.2;have d:0<2^H:=Hc (by decide);have j:=Rx c.2;have e:0<2^W:=Hc (by decide);refine CV (src:=[]) (xs:=[(MT H W,2^H),(MT W H,2^W)]) (φ:=fun p:Nat×Nat=>G1 p.1 p.2) (fun _=>true) (fun p=>.int (FJ p.1 p.2)) (fun p=>[some (.int ((p.1 / Nat.gcd p.1 p.2:Nat):Int)),some (.int ((p.2 / Nat.gcd p.1 p.2:Nat):Int))]) ?_ (by simp) (fun x _=>by unfold G1;rfl) (fun x r k l=>.ok) (fun p a _ k l=>?_) fun t m s g=>?_
 ·simp;refine (Zv b c).wp fun u n=>?_;refine (Zv c b).wp fun v o=>?_;simp;exact ⟨n.trans o,fun m s=>Cr⟩
 ·have q:0<p.2∧p.2≤256:=by
   simp only [qa6,D9,or_false] at a;rcases a with rfl |rfl
   ·exact ⟨d,i⟩
   ·exact ⟨e,j⟩
  have w:=pM (T:=p.1) q.1;have y:=pN (T:=p.1) (B:=p.2);simp only [Pu,Fq,Ei,Dk];refine AN (KA (by omega) (by omega)) ?_;exact ⟨rfl,.refl _⟩
 ·rw [B8] at g;simp only [B2,Kz];refine AN (Pt (ns:=[FJ (MT H W) (2^H),FJ (MT W H) (2^W)]) g (by simp)) ?_;exact ⟨rfl,s⟩
end
def Gb (n:Int):List Nat:=(Str.ofString (toString n)).cps.toList
def pO {n:Int} (h:0≤n) (a:n<100000000):(Gb n).length≤8:=by
 obtain ⟨k,rfl⟩:∃k:Nat,n=(k:Nat):=⟨n.toNat,by omega⟩
 have e:toString ((k:Nat):Int)=k.repr:=rfl;have l:=(Nat.length_repr_le_iff (n:=k) (k:=8) (by decide)).mpr (by omega);unfold Gb;rw [e];have:(Str.ofString k.repr).cps.toList.length=k.repr.length:=by rw [Str.ofString_eq_toList];simp;rw [←Nat.toList_repr,String.length_toList]
 omega
def Gc {n:Int} (a:0≤n) (b:n<100000000):LS.strOfD (.int n) h=.ok (.str (tx (Gb n))) h:=by
 show (if n.natAbs<4611686018427387904 then Out.ok (D.str (Str.ofString (toString n))) h else .stuck)=_
 rw [if_pos (by omega)]
 congr 2
def Ld {a:Type} {g:a→Int} {b:Int}:∀(l:List a),(∀x,0≤g x∧g x≤b)→0≤(l.map g).sum∧(l.map g).sum≤l.length*b
 |[],_=>by simp
 |x::l,h=>by have:=Ld l h;have:=h x;simp only [Bk,G9,Dc,Int.natCast_add,Int.add_mul];omega
def pP {H W:Nat} {f:BF} {k:Int} {R:Nat→Bool} (h:W≤8):0≤hk H W f k R∧hk H W f k R≤256:=by
 rw [jx];have:=Ld (g:=fun C=>if TT H W f R C=k then (1:Int) else 0) (b:=1) (LL 0 W) fun x=>by split<;>omega
 rw [KI] at this;have:2^W≤2^8:=E3 (by decide) h;omega
def Zx {H W:Nat} {f:BF} {k:Int} (a:H≤8) (h:W≤8):0≤NN H W f k∧NN H W f k<100000000:=by unfold NN;have:=Ld (g:=hk H W f k) (b:=256) (LL 1 (H - 1)) fun x=>pP h;rw [KI] at this;have:2^(H - 1)≤2^7:=E3 (by decide) (by omega);omega
def sm (n:Nat) (g:Nat→Int):Int:=((List.range n).map g).sum
def Gd {n:Nat} {g:Nat→Int}:sm (n+1) g=sm n g+g n:=by unfold sm;simp [Cp]
def Le {n:Nat} {g a:Nat→Int} (h:∀i,i<n→g i=a i):sm n g=sm n a:=by unfold sm;rw [Cf fun i b=>h i (qb3.mp b)]
def pQ {n:Nat} {g a:Nat→Int}:sm n (fun i=>g i+a i)=sm n g+sm n a:=by
 induction n with
 |zero=>rfl
 |succ n b=>simp only [Gd,b];omega
def Ry (F:Nat→Nat→Int):∀n,sm n (fun a=>sm (n - (a+1)) fun k=>F a (a+1+k))=sm n fun b=>sm b fun a=>F a b
 |0=>rfl
 |n+1=>by
  rw [Gd,Gd,←Ry F n];have e:sm n (fun a=>sm (n+1 - (a+1)) fun k=>F a (a+1+k))=sm n fun a=>sm (n - (a+1)) (fun k=>F a (a+1+k))+F a n:=Le fun i h=>by rw [show n+1 - (i+1)=(n - (i+1))+1 by omega,Gd,show i+1+(n - (i+1))=n by omega]
  rw [e,pQ,Nat.sub_self];simp [sm]
def cn (b:Bool):Int:=if b then 1 else 0
def Zy {g:Nat→Bool}:∀n,sm n (fun e=>sm e fun c=>cn (Bool.xor (g c) (g e)))=A8 n g*(n - A8 n g)
 |0=>rfl
 |n+1=>by
  have a:A8 (n+1) g=A8 n g+cn (g n):=by unfold A8 cn;simp [Cp]
  have b:∀n,sm n (fun c=>cn (Bool.xor (g c) true))=n - A8 n g:=fun n=>by
   induction n with
   |zero=>rfl
   |succ n i=>rw [Gd,i];unfold A8 cn;simp only [Cp,Ca,Dw,Bk,Hb,G9,List.sum_nil];cases g n<;>simp<;>omega
  have d:∀n,sm n (fun c=>cn (Bool.xor (g c) false))=A8 n g:=fun n=>by
   induction n with
   |zero=>rfl
   |succ n i=>rw [Gd,i];unfold A8 cn;simp only [Cp,Ca,Dw,Bk,Hb,G9,List.sum_nil];cases g n<;>simp
  rw [Gd,Zy n,a];generalize h:A8 n g=u;cases f:g n with
  |true=>
   rw [b n,h];have:cn true=1:=rfl;rw [this];have:(u+1)*(((n+1:Nat):Int) - (u+1))=u*(n - u)+(n - u):=by rw [show ((n+1:Nat):Int) - (u+1)=n - u by omega,Int.add_mul];omega
   omega
  |false=>
   rw [d n,h];have:cn false=0:=rfl;rw [this,Int.add_zero];have:u*(((n+1:Nat):Int) - u)=u*(n - u)+u:=by rw [show ((n+1:Nat):Int) - u=(n - u)+1 by omega,Int.mul_add];omega
   omega
def un (W:Nat) (f:BF) (a b:Nat):Int:=A8 W fun j=>Bool.xor (f a j) (f b j)
def fo (H W:Nat) (f:BF):Int:=sm H fun a=>sm a fun b=>un W f a b*(W - un W f a b)
def Rz {a b:Type} (g:a→List b):∀l:List a,(((l.flatMap g).length:Nat):Int)=(l.map fun x=>(((g x).length:Nat):Int)).sum
 |[]=>rfl
 |x::l=>by rw [IK,DE,Int.natCast_add,Rz g l];rfl
def RA {a:Type} (p:a→Bool):∀l:List a,(((l.filter p).length:Nat):Int)=(l.map fun x=>cn (p x)).sum
 |[]=>rfl
 |x::l=>by have:=RA p l;cases h:p x<;>simp [List.filter_cons,h,cn,this]<;>simp [cn] at this<;>omega
def Zz {H W:Nat} {f:BF}:(((((AF H W).filter (FG f)).length:Nat)):Int)=fo H W f:=by
 unfold AF;rw [List.filter_flatMap,Rz];simp only [List.filter_flatMap,Rz,RA,BQ];have e:∀a b,sm W (fun c=>sm (W - (c+1)) fun e=>cn (FG f (a,b,c,c+1+e)))=un W f a b*(W - un W f a b):=fun a b=>by rw [Ry fun c e=>cn (FG f (a,b,c,e))];unfold un;rw [←Zy];refine Le fun e _=>Le fun c _=>?_;unfold FG;simp only;generalize f a c=x;generalize f a e=y;generalize f b c=z;generalize f b e=w;cases x<;>cases y<;>cases z<;>cases w<;>rfl
 show sm H (fun a=>sm (H - (a+1)) fun k=>sm W fun c=>sm (W - (c+1)) fun e=>cn (FG f (a,a+1+k,c,c+1+e)))=_
 rw [Ry fun a b=>sm W fun c=>sm (W - (c+1)) fun e=>cn (FG f (a,b,c,c+1+e))];unfold fo;refine Le fun a _=>Le fun b _=>?_;rw [e];have:un W f b a=un W f a b:=by
  unfold un
  congr 1
  funext j;exact Bool.xor_comm _ _
 rw [this]
section
variable {H W:Nat} {f:BF} {h:HD}
def pR {a b:Nat}:0≤un W f a b∧un W f a b≤W:=Mw
inductive FoI (H W:Nat) (f:BF) (h:HD) (xs:List Nat) (ρ:Ag) (h':HD):Prop where
 |mk (k:Nat) (d2 d3 d4:Option D) (f0:xs=(List.range H).drop k) (f1:k≤H) (f2:ρ=[some (bD H W f),some (.int (fo k W f)),d2,d3,d4]) (f3:Sm h h'):FoI H W f h xs ρ h'
inductive FoJ (H W:Nat) (f:BF) (h:HD) (a:Nat) (xs:List Nat) (ρ:Ag) (h':HD):Prop where
 |mk (k:Nat) (d3 d4:Option D) (f0:xs=(List.range a).drop k) (f1:k≤a) (f2:ρ=[some (bD H W f),some (.int (fo a W f+sm k fun b=>un W f a b*(W - un W f a b))),some (.int (a:Nat)),d3,d4]) (f3:Sm h h'):FoJ H W f h a xs ρ h'
def pS {a b:Nat} {d g:Option D} {Q:D→HD→Prop} (i:a<H) (k:b<H) (m:W≤8) (q:∀c,Sm h c→Q (.int (un W f a b)) c):Wp (Ab (Ai Au) (Ac (Ax [none,none] (Fw (Ac (Aa Ah (Ad 0) (Ad 2)) (Ac (Aa Ah (Ad 0) (Ad 3)) (Af)))) (Bs 0 1) (Aq (Aa Bt (Ad 0) (Ad 1))) (mC (.int 1))) (Af)) [some (bD H W f),d,some (.int (a:Nat)),some (.int (b:Nat)),g] h) Q:=by
 rw [CJ,BM];refine CV (src:=[]) (xs:=List.range W) (φ:=fun j=>.tup [lit (f a j),lit (f b j)]) (fun j=>Bool.xor (f a j) (f b j)) (fun _=>.int 1) (fun j=>[some (lit (f a j)),some (lit (f b j))]) ?_ (sz m) (fun x _=>rfl) (fun x o c s=>?_) (fun x _ _ c s=>?_) fun l c s n=>?_
 ·simp [Io i,Io k];simp only [As];rw [KH (e:=fun j=>lit (f a j)) (e':=fun j=>lit (f b j)) HF HF];simp [Sm.refl,A7]
 ·simp [Pu,Nx,Sm.refl]
 ·simp [Pu,Sm.refl]
 ·simp;rw [GJ n];have e:((((List.range W).filter fun j=>Bool.xor (f a j) (f b j)).length:Nat):Int)=un W f a b:=RA _ _;rw [Ci,e];exact q c s
def pT (p:SZ H) (q:SZ W):Pu (Qt [bD H W f] h) h (.int (fo H W f)):=by
 change Wp (Al 5 Xy [bD H W f] h) _;refine Eq.mpr An ?_;simp [-Ae];refine Eq.mpr Ae ?_;simp [-Ae];refine CC (src:=[]) (xs:=List.range H) (fun k=>.int ((k:Nat):Int)) (FoI H W f h) ?_ (fun n c g _=>Cr) ?_ ?_
 ·simp [B9];rw [Dl (by omega)];simp;exact ⟨0,_,_,_,by simp,by omega,rfl,.refl _⟩
 ·rintro x xs c g ⟨k,r,d,e,ex,hk,rfl,s⟩;obtain ⟨rfl,i,rfl⟩:=D2 ex.symm;refine ⟨_,rfl,?_⟩;refine CC (src:=[]) (xs:=List.range x) (fun k=>.int ((k:Nat):Int)) (FoJ H W f h x) ?_ (fun n c g _=>Cr) ?_ ?_
  ·simp;rw [Dl (by omega)];simp;exact ⟨0,d,e,by simp,by omega,by simp [sm],s⟩
  ·rintro y n c t ⟨j,d,e,l,o,rfl,m⟩;obtain ⟨rfl,u,rfl⟩:=D2 l.symm;refine ⟨_,rfl,?_⟩;rw [Ba];refine Eq.mpr Cj ?_;refine pS i (by omega) q.2 fun w v=>?_;refine Eq.mpr Ae ?_;have b:=pR (W:=W) (f:=f) (a:=x) (b:=y);simp [BO p.1,Co];rw [Jm (by omega) (by omega)];simp [B3];refine ⟨y+1,some (.int (y:Nat)),some (.int (un W f x y)),rfl,by omega,?_,m.trans v⟩;rw [Gd,Int.add_assoc]
  ·rintro c t ⟨j,d,e,l,o,rfl,m⟩;have:=EA o l.symm;subst this;simp [B3];refine ⟨j+1,some (.int (j:Nat)),d,e,rfl,by omega,?_,m⟩;unfold fo;rw [Gd]
 ·rintro c g ⟨k,r,d,e,ex,hk,rfl,s⟩;have:=EA hk ex.symm;subst this;simp [s]
def ZA (a:H≤8) (b:W≤8):0≤fo H W f∧fo H W f<100000000:=by rw [←Zz];have:=J6 (FG f) (AF H W);have:=Ra a b;omega
inductive ZC (H W:Nat) (f:BF) (h:HD) (l:Nat) (xs:List Nat) (ρ:Ag) (h':HD):Prop where
 |mk (k:Nat) (d2:Option D) (f0:xs=(List.range H).drop k) (f1:k≤H) (f2:ρ=[some (bD H W f),some (.loc l),d2]) (f3:Sm h h') (f4:h'[l]?=some (.lst ((List.range k).map fun i=>As W (FH f i)))) (f5:h.length≤l):ZC H W f h l xs ρ h'
def RB (p:SZ H) (q:SZ W):Pu (Ie [bD H W f] h) h (bD H W (FH f)):=by
 change Wp (Al 3 Xz [bD H W f] h) _;refine Eq.mpr An ?_;simp [-Ae];refine A4 (by simp) fun l E w z F _=>?_;refine Eq.mpr Ae ?_;simp [-Ae];refine CC (src:=[]) (xs:=List.range H) (fun i=>As W (f i)) (ZC H W f h l) ?_ (fun G t g _=>Cr) ?_ ?_
 ·simp [bD];exact ⟨0,_,by simp,by omega,rfl,w,z,by omega⟩
 ·rintro x xs t g ⟨k,A,ex,hk,rfl,s,e,m⟩;obtain ⟨rfl,B,rfl⟩:=D2 ex.symm;refine ⟨_,rfl,?_⟩;have n:∀{r:Nat→Bool} {h:HD},Ah (As W r) (.int 0) h=.ok (lit (r 0)) h:=fun {r h}=>Rc q.1;simp [Ej e];refine Pu.wp (Ek (src:=[]) (xs:=List.range W) (φ:=fun j=>.tup [lit (f x j),lit (f 0 j)]) (fun j=>lit (FH f x j)) (fun j=>[some (lit (f x j)),some (lit (f 0 j)),some (As W (f x)),some (bD H W f)]) ?_ (fun y _=>rfl) (fun y I g J=>?_) (sz q.2)) fun L u=>?_
  ·simp [Bq,BO p.1];simp only [As];rw [KH (e:=fun j=>lit (f x j)) (e':=fun j=>lit (f 0 j)) HF HF];simp [Sm.refl,A7]
  ·have o:∀a b c d:Bool,((if a then 1 else 0:Int)+(if b then 1 else 0)+(if c then 1 else 0)+(if d then 1 else 0)) % 2=if Bool.xor a (Bool.xor (Bool.xor b d) c) then 1 else 0:=by decide
   simp [Pu,n,BO p.1,lit];rw [FW (by decide),o];simp [FH,Sm.refl]
  ·have v:=u _ _ e;have C:=(qa1.mp v).1;refine AN (GE v (by simp;unfold sizeLine;omega)) ?_;simp [B3];refine ⟨x+1,_,rfl,by omega,rfl,Sm.put (s.trans u) m,?_,m⟩;rw [BP C,←Rl];rfl
 ·rintro t g ⟨k,A,ex,hk,rfl,s,e,m⟩;have:=EA hk ex.symm;subst this;simp [Hz e];exact ⟨rfl,s⟩
end
section
variable {H W:Nat} {f:BF} {h:HD}
def ZD (c:H≤8) (d:W≤8):0≤DX H W f∧DX H W f<100000000:=by
 obtain ⟨R,_,e⟩:=PH (H:=H) (W:=W) (f:=f);rw [←e];have:=Ld (g:=fun j=>if (H:Int) - cc H f R j<cc H f R j then (H:Int) - cc H f R j else cc H f R j) (b:=8) (List.range W) fun j=>by
  have:=Mw (n:=H) (r:=fun i=>Bool.xor (f i j) (R i));have a:cc H f R j=A8 H (fun i=>Bool.xor (f i j) (R i)):=rfl;rw [a]
  split<;>omega
 rw [J8] at this;unfold DW;omega
def ZE {T B:Nat} (a:0<B):0≤FJ T B∧FJ T B≤T:=by unfold FJ;refine ⟨Int.ediv_nonneg (Int.natCast_nonneg _) (Int.natCast_nonneg _),?_⟩;exact Int.le_trans (Int.ediv_le_self _ (Int.natCast_nonneg _)) (Int.ofNat_le.mpr (Nat.div_le_self T (Nat.gcd T B)))
def NM (H W:Nat):Int:=min (FJ (MT H W) (2^H)) (FJ (MT W H) (2^W))
def ZF (d:H≤8) (e:W≤8):0≤NM H W∧NM H W<100000000:=by
 have a:=ZE (T:=MT H W) (B:=2^H) (Hc (by decide));have b:=ZE (T:=MT W H) (B:=2^W) (Hc (by decide));have c:=Zu d e;have:((MT H W:Nat):Int)=AS W H H fun _=>0:=by unfold MT;omega
 unfold NM;omega
def G2 (H W:Nat) (f:BF):Int:=((List.range H).map fun i=>A8 W (f i)).sum
def ZG (a:H≤8) (c:W≤8):0≤G2 H W f∧G2 H W f<100000000:=by
 have:=Ld (g:=fun i=>A8 W (f i)) (b:=8) (List.range H) fun i=>by have:=Mw (n:=W) (r:=f i);omega
 rw [J8] at this;unfold G2;omega
def pU (b:SZ H) (c:SZ W):Pu (QN [bD H W f] h) h (.int (G2 H W f)):=by change Wp (Al 1 X2 [bD H W f] h) _;rw [An];simp;refine (YW b c).wp fun a s=>?_;have:BS (.tup ((List.range H).map fun i=>D.int (A8 W (f i)))) a=.ok (.int (G2 H W f)) a:=Pd;rw [this];exact ⟨rfl,s⟩
def pV (d:H≤8) {b:Ag} {i:Nat} (e:b[i]?=some (some (bD H W f))):Pu (Ab (Ai BS) (Ac (Ax [none] (A3 (Ad i)) (AB 0) (AH) (Ab (Ai BS) (Ac (Ad 0) (Af)))) (Af)) b h) h (.int (G2 H W f)):=by
 unfold Pu;rw [CJ,BM];refine CV (src:=[]) (xs:=List.range H) (φ:=fun i=>As W (f i)) (fun _=>true) (fun i=>.int (A8 W (f i))) (fun i=>[some (As W (f i))]) (by
  have g:Ad i b h=.ok (bD H W f) h:=by simp only [Ad,e]
  simp only [GD,g,AE];simp [bD,Sm.refl,A7]) (sz d) (fun x _=>rfl) (fun x _ a _=>.ok) (fun x _ _ a _=>?_) fun l a s c=>?_
 ·simp [Pu,YV,Sm.refl]
 ·rw [B8] at c;simp;have:BS (.loc l) a=.ok (.int (G2 H W f)) a:=by exact Rt c
  rw [this];exact ⟨rfl,s⟩
def ZH (H W:Nat) (f:BF):List Nat:=By [32] ((List.range (H*W+1)).map fun k:Nat=>Gb (NN H W f k))
def ZI (a:SZ H) (c:SZ W) {ρ:Ag} {i:Nat} (e:ρ[i]?=some (some (bD H W f))):Pu (JF [32] [none] (A3 (Ab JQ (Ac (Ad i) (Af)))) (AB 0) (Ab (Ai LS.strOfD) (Ac (Ad 0) (Af))) ρ h) h (.str (tx (ZH H W f))):=by
 obtain ⟨l,n,g,s,d,_⟩:=pz (f:=f) (h:=h) a c;have o:H*W≤64:=Lx a.2 c.2;refine MV (src:=[(l,BD (H*W+1) fun k=>NN H W f k)]) (xs:=List.range (H*W+1)) (φ:=fun k:Nat=>.int (NN H W f k)) (fun k:Nat=>Gb (NN H W f k)) (fun k:Nat=>[some (.int (NN H W f k))]) 8 ?_ (fun x _=>rfl) (fun x _ p _=>?_) (Ct (by simp;omega)) (fun x _=>?_) (Ct (by simp;omega))
 ·simp only [Bq,GD,CJ,BM,B2];have j:Ad i ρ h=.ok (bD H W f) h:=by simp only [Ad,e]
  rw [j,AE,g,AE];simp [Fx d];exact ⟨rfl,s,fun q m=>Di (m _ _ d)⟩
 ·have b:=Zx (f:=f) (k:=(x:Nat)) a.2 c.2;simp [Pu,Gc b.1 b.2,Sm.refl]
 ·have b:=Zx (f:=f) (k:=(x:Nat)) a.2 c.2;exact pO b.1 b.2
noncomputable def Dv (H W:Nat) (f:BF):Nat→List Nat
 |0=>Cy H W f
 |1=>Gb (G2 H W f)
 |2=>Gb (DX H W f)
 |3=>Gb (NM H W)
 |4=>Gb (fo H W f)
 |_=>ZH H W f
noncomputable def askW:List Str:=["show","lit","left","bound","fours","counts"]
end
section
variable {H W:Nat} {f:BF} {h:HD}
def Lf (b:SZ H) (c:SZ W):Pu (Dr [bD H W f] h) h (.str (tx (Cy H W f))):=by
 change Wp (Al 1 Qs [bD H W f] h) _;refine Eq.mpr An ?_;simp only [Qs];rw [Hv];refine Pu.wp (a:=.str (tx (Cy H W f))) ?_ fun d s=>⟨rfl,s⟩
 refine MV (sep:=[47]) (xs:=List.range H) (φ:=fun i=>As W (f i)) (src:=[]) (fun i=>C8 W (f i)) (fun i=>[some (As W (f i))]) 8 GG (fun x _=>rfl) (fun x _ e _=>?_) (sz b.2) (fun x _=>by rw [Ny];exact c.2) (Ct (by simp;omega));exact p_row_text.resolve_right (by omega)
def pW (a:SZ H) (b:SZ W):Pu (FE [.str "show",bD H W f] h) h (.str (tx (Dv H W f 0))):=by change Wp (Al 2 Ik [.str "show",bD H W f] h) _;refine Eq.mpr An ?_;simp [Ce];exact (Lf a b).wp fun c s=>⟨rfl,s⟩
def pX (c:SZ H) (d:SZ W):Pu (FE [.str "lit",bD H W f] h) h (.str (tx (Dv H W f 1))):=by change Wp (Al 2 Ik [.str "lit",bD H W f] h) _;refine Eq.mpr An ?_;simp [Ce,A6 (a:="lit") (b:="show") (by decide)];refine (pV (f:=f) c.2 (i:=1) rfl).wp fun e s=>?_;have b:=ZG (f:=f) c.2 d.2;rw [Gc b.1 b.2];exact ⟨rfl,s⟩
def pY (c:SZ H) (d:SZ W):Pu (FE [.str "left",bD H W f] h) h (.str (tx (Dv H W f 2))):=by change Wp (Al 2 Ik [.str "left",bD H W f] h) _;refine Eq.mpr An ?_;simp [Ce,A6 (a:="left") (b:="show") (by decide),A6 (a:="left") (b:="lit") (by decide)];refine (o2 c d).wp fun e s=>?_;have b:=ZD (f:=f) c.2 d.2;rw [Gc b.1 b.2];exact ⟨rfl,s⟩
def pZ (c:SZ H) (d:SZ W):Pu (FE [.str "bound",bD H W f] h) h (.str (tx (Dv H W f 3))):=by change Wp (Al 2 Ik [.str "bound",bD H W f] h) _;refine Eq.mpr An ?_;simp [Ce,A6 (a:="bound") (b:="show") (by decide),A6 (a:="bound") (b:="lit") (by decide),A6 (a:="bound") (b:="left") (by decide),B9,BO c.1,Co];refine (Zw c d).wp fun e s=>?_;have b:=ZF c.2 d.2;refine AN (Gc b.1 b.2) ?_;exact ⟨rfl,s⟩
def p0 (c:SZ H) (d:SZ W):Pu (FE [.str "fours",bD H W f] h) h (.str (tx (Dv H W f 4))):=by change Wp (Al 2 Ik [.str "fours",bD H W f] h) _;refine Eq.mpr An ?_;simp [Ce,A6 (a:="fours") (b:="show") (by decide),A6 (a:="fours") (b:="lit") (by decide),A6 (a:="fours") (b:="left") (by decide),A6 (a:="fours") (b:="bound") (by decide)];refine (pT c d).wp fun e s=>?_;have b:=ZA (f:=f) c.2 d.2;rw [Gc b.1 b.2];exact ⟨rfl,s⟩
def p5 (c:SZ H) (d:SZ W):Pu (FE [.str "counts",bD H W f] h) h (.str (tx (Dv H W f 5))):=by change Wp (Al 2 Ik [.str "counts",bD H W f] h) _;refine Eq.mpr An ?_;simp [Ce,A6 (a:="counts") (b:="show") (by decide),A6 (a:="counts") (b:="lit") (by decide),A6 (a:="counts") (b:="left") (by decide),A6 (a:="counts") (b:="bound") (by decide),A6 (a:="counts") (b:="fours") (by decide)];have k:=ZI (f:=f) (h:=h) c d (ρ:=[some (.str "counts"),some (bD H W f)]) (i:=1) rfl;unfold Pu JF at k;rw [JA] at k;exact k
def qa (a:SZ H) (b:SZ W):Pu (Ew [bD H W f,.str "show"] h) h (.str (tx (Dv H W f 0))):=by change Wp (Al 2 F8 [bD H W f,.str "show"] h) _;refine Eq.mpr An ?_;simp [Ce];exact (nJ a b).wp fun c s=>⟨rfl,s⟩
def qb (c:SZ H) (d:SZ W):Pu (Ew [bD H W f,.str "lit"] h) h (.str (tx (Dv H W f 1))):=by change Wp (Al 2 F8 [bD H W f,.str "lit"] h) _;refine Eq.mpr An ?_;simp [Ce,A6 (a:="lit") (b:="show") (by decide)];refine (pU c d).wp fun e s=>?_;have b:=ZG (f:=f) c.2 d.2;rw [Gc b.1 b.2];exact ⟨rfl,s⟩
def qc (c:SZ H) (d:SZ W):Pu (Ew [bD H W f,.str "left"] h) h (.str (tx (Dv H W f 2))):=by change Wp (Al 2 F8 [bD H W f,.str "left"] h) _;refine Eq.mpr An ?_;simp [Ce,A6 (a:="left") (b:="show") (by decide),A6 (a:="left") (b:="lit") (by decide)];refine (oO c d).wp fun e s=>?_;have b:=ZD (f:=f) c.2 d.2;rw [Gc b.1 b.2];exact ⟨rfl,s⟩
def qd (c:SZ H) (d:SZ W):Pu (Ew [bD H W f,.str "bound"] h) h (.str (tx (Dv H W f 3))):=by change Wp (Al 2 F8 [bD H W f,.str "bound"] h) _;refine Eq.mpr An ?_;simp [Ce,A6 (a:="bound") (b:="show") (by decide),A6 (a:="bound") (b:="lit") (by decide),A6 (a:="bound") (b:="left") (by decide),B9,BO c.1,Co];refine (Zw c d).wp fun e s=>?_;have b:=ZF c.2 d.2;refine AN (Gc b.1 b.2) ?_;exact ⟨rfl,s⟩
def qe (c:SZ H) (d:SZ W):Pu (Ew [bD H W f,.str "fours"] h) h (.str (tx (Dv H W f 4))):=by change Wp (Al 2 F8 [bD H W f,.str "fours"] h) _;refine Eq.mpr An ?_;simp [Ce,A6 (a:="fours") (b:="show") (by decide),A6 (a:="fours") (b:="lit") (by decide),A6 (a:="fours") (b:="left") (by decide),A6 (a:="fours") (b:="bound") (by decide)];refine nz c d fun l g s e=>?_;rw [GJ e];have b:=ZA (f:=f) c.2 d.2;rw [Ci,Zz];simp;rw [Gc b.1 b.2];exact ⟨rfl,s⟩
def qf (c:SZ H) (d:SZ W):Pu (Ew [bD H W f,.str "counts"] h) h (.str (tx (Dv H W f 5))):=by change Wp (Al 2 F8 [bD H W f,.str "counts"] h) _;refine Eq.mpr An ?_;simp [Ce,A6 (a:="counts") (b:="show") (by decide),A6 (a:="counts") (b:="lit") (by decide),A6 (a:="counts") (b:="left") (by decide),A6 (a:="counts") (b:="bound") (by decide),A6 (a:="counts") (b:="fours") (by decide)];have k:=ZI (f:=f) (h:=h) c d (ρ:=[some (bD H W f),some (.str "counts")]) (i:=0) rfl;unfold Pu JF at k;rw [JA] at k;exact k
def qg {j:Nat} (c:j<6) (a:SZ H) (b:SZ W):Pu (FE [.str (askW.getD j ""),bD H W f] h) h (.str (tx (Dv H W f j))):=by
 match j,c with
 |0,_=>exact pW a b
 |1,_=>exact pX a b
 |2,_=>exact pY a b
 |3,_=>exact pZ a b
 |4,_=>exact p0 a b
 |5,_=>exact p5 a b
def qh {j:Nat} (c:j<6) (a:SZ H) (b:SZ W):Pu (Ew [bD H W f,.str (askW.getD j "")] h) h (.str (tx (Dv H W f j))):=by
 match j,c with
 |0,_=>exact qa a b
 |1,_=>exact qb a b
 |2,_=>exact qc a b
 |3,_=>exact qd a b
 |4,_=>exact qe a b
 |5,_=>exact qf a b
end
section
variable {H W r c l:Nat} {f:BF} {h:HD}
def RC {a b:Nat}:Jc (.int (a:Nat)) (.int (b:Nat)) h=.ok (.bl (decide (b≤a))) h:=by
 show Out.ok (D.bl _) h=_
 congr 2
 simp
def NO (H W:Nat) (f:BF):Nat→Bool:=tR f W H
def NP (H W:Nat) (f:BF):Nat→Bool:=FZ H (cc H f (tR f W H))
def qi (d:SZ H) (e:SZ W) {x:D}:Pu (CD [.str "road",x,bD H W f] h) h (bD H W (sw f (NO H W f) (NP H W f))):=by change Wp (Al 10 Il [.str "road",x,bD H W f] h) _;refine Eq.mpr An ?_;simp [B9,BO d.1,Co,Ce,A6 (a:="road") (b:="light") (by decide),A6 (a:="road") (b:="row") (by decide),A6 (a:="road") (b:="column") (by decide)];refine (Zt d e).wp fun i s=>?_;simp;exact (NH (p:=NO H W f) (q:=NP H W f) d e).wp fun j g=>⟨rfl,s.trans g⟩
def qj (d:SZ H) (e:SZ W) {x:D}:Pu (CD [.str "form",x,bD H W f] h) h (bD H W (FH f)):=by change Wp (Al 10 Il [.str "form",x,bD H W f] h) _;refine Eq.mpr An ?_;simp [B9,BO d.1,Co,Ce,A6 (a:="form") (b:="light") (by decide),A6 (a:="form") (b:="row") (by decide),A6 (a:="form") (b:="column") (by decide),A6 (a:="form") (b:="road") (by decide)];exact (RB d e).wp fun g s=>⟨rfl,s⟩
def qk (d:SZ H) (e:SZ W) {x:D}:Pu (CD [.str "turn",x,bD H W f] h) h (bD W H fun i j=>f j i):=by
 change Wp (Al 10 Il [.str "turn",x,bD H W f] h) _;refine Eq.mpr An ?_;simp [B9,BO d.1,Co,Ce,A6 (a:="turn") (b:="light") (by decide),A6 (a:="turn") (b:="row") (by decide),A6 (a:="turn") (b:="column") (by decide),A6 (a:="turn") (b:="road") (by decide),A6 (a:="turn") (b:="form") (by decide)];refine Pu.wp (Ek (src:=[]) (xs:=List.range W) (φ:=fun j=>.int ((j:Nat):Int)) (fun j=>As H fun i=>f i j) (fun j=>[some (.int ((j:Nat):Int)),some (bD H W f)]) ?_ (fun x _=>rfl) (fun x g k s=>?_) (sz e.2)) fun n m=>?_
 ·simp [Bq];rw [Dl (by omega)];simp [Sm.refl,A7]
 ·simp [Pu];refine (Ek (src:=[]) (xs:=List.range H) (φ:=fun i=>As W (f i)) (fun i=>lit (f i x)) (fun i=>[some (As W (f i)),some (.int ((x:Nat):Int))]) ?_ (fun x _=>rfl) (fun y o k s=>?_) (sz d.2))
  ·simp [Bq,bD,Sm.refl,A7]
  ·simp [Pu,As];rw [GF (by simpa using g)];simp [Sm.refl]
 ·exact ⟨rfl,m⟩
def ql (g:SZ H) (j:SZ W) (e:h[l]?=some (.lst [.int (r:Nat)])):Pu (CD [.str "row",.loc l,bD H W f] h) h (if r<H then bD H W (sw f (fun i=>i==r) fun _=>false) else .non):=by
 change Wp (Al 10 Il [.str "row",.loc l,bD H W f] h) _;refine Eq.mpr An ?_;have m:Ah (.loc l) (.int 0) h=.ok (.int (r:Nat)) h:=B4 (k:=0) e rfl;simp [B9,BO g.1,Co,Ce,A6 (a:="row") (b:="light") (by decide),m,RC]
 by_cases d:r<H
 ·have:¬H≤r:=by omega
  simp [d,this,Hz e];have n:(D.tup [.int (r:Nat)])=AV H fun i=>i==r:=(NF d).symm;have o:(D.tup [])=AV W fun _=>false:=lot_no.symm;rw [n,o];exact (NH g j).wp fun p s=>⟨rfl,s⟩
 ·have:H≤r:=by omega
  simp [d,this,Sm.refl]
def qm (g:SZ H) (m:SZ W) (e:h[l]?=some (.lst [.int (c:Nat)])):Pu (CD [.str "column",.loc l,bD H W f] h) h (if c<W then bD H W (sw f (fun _=>false) fun j=>j==c) else .non):=by
 change Wp (Al 10 Il [.str "column",.loc l,bD H W f] h) _;refine Eq.mpr An ?_;have n:Ah (.loc l) (.int 0) h=.ok (.int (c:Nat)) h:=B4 (k:=0) e rfl;simp [B9,BO g.1,Co,Ce,A6 (a:="column") (b:="light") (by decide),A6 (a:="column") (b:="row") (by decide),n,RC]
 by_cases d:c<W
 ·have:¬W≤c:=by omega
  simp [d,this,Hz e];have o:(D.tup [.int (c:Nat)])=AV W fun i=>i==c:=(NF d).symm;have p:(D.tup [])=AV H fun _=>false:=lot_no.symm;rw [o,p];exact (NH g m).wp fun q s=>⟨rfl,s⟩
 ·have:W≤c:=by omega
  simp [d,this,Sm.refl]
def qo (a:c<W):((List.range W).map fun j=>lit (f r j)).take c++[lit (!f r c)]++((List.range W).map fun j=>lit (f r j)).drop (c+1)=(List.range W).map fun j=>lit (DD f r c r j):=by rw [←YQ a,List.set_eq_take_append_cons_drop,if_pos (by simpa using a),J7];rfl
def qp (m:SZ H) (n:SZ W) (e:h[l]?=some (.lst [.int (r:Nat),.int (c:Nat)])):Pu (CD [.str "light",.loc l,bD H W f] h) h (if r<H∧c<W then bD H W (DD f r c) else .non):=by
 change Wp (Al 10 Il [.str "light",.loc l,bD H W f] h) _;refine Eq.mpr An ?_;simp [-Ae,B9,BO m.1,Co,Ce];refine Eq.mpr Ae ?_;simp [mz e,RC]
 by_cases a:r<H
 ·have b:¬H≤r:=by omega
  by_cases d:c<W
  ·have g:¬W≤c:=by omega
   simp [a,d,b,g,Io a];simp only [As];rw [PV (k:=c) (by simp;omega)];simp;rw [GF d,AE,YR];simp;rw [JT (by simp;omega)];simp;rw [PX (k:=c) (by omega) (by simp;omega)];simp;rw [JT (by simp;omega)];simp [bD];rw [PV (k:=r) (by simp;omega)];simp;rw [JT (by simp;omega)];simp;rw [PX (k:=r) (by omega) (by simp;omega)];simp;rw [JT (by simp;omega)];simp;have i:=qo (f:=f) (r:=r) d;have j:=D.tup.inj (YP (W:=W) (f:=f) (c:=c) a);simp at i j;rw [i,j];exact ⟨rfl,.refl _⟩
  ·have g:W≤c:=by omega
   simp [a,d,b,g,Sm.refl]
 ·have b:H≤r:=by omega
  simp [a,b,Sm.refl]
end
section
variable {h:HD} {d k e:Nat} {ds:List D} {b y:D} {L T:List Nat}
def qq (g:L.length≤900) (i:∀x∈L,x≠32) (A:wc h d k e ds b) (p:∀h,Pu (Ew [b,.str (tx L)] h) h (.str (tx T))):Pu (Cd [.loc d,.str (tx L)] h) h (.str (tx T)):=by refine GZ (Rk g i A fun c s=>?_);have a:=A.sm s;change We (Al 4 Im [.loc d,.str (tx L)] c) _ _;refine Eq.mpr DY ?_;simp only [Im,DI,PU,Jy,Jz,JG,KU];change We (D0 "Desk" "kept" (.loc d) c) _ _;rw [EB a.a1,CK];rw [DL a.a2,CK,HN];refine (K9 a.a2).we fun j l=>?_;simp;refine (p j).we fun f m=>?_;have n:Eg (.str (tx T)) .non f=.ok (.bl true) f:=rfl;simp [n];exact (s.trans l).trans m
def qr {Q:D→HD→Prop} (v:L.length≤900) (w:∀x∈L,x≠32) (z:¬tx L=("undo":Str)) (a:∀s∈askW,¬tx L=s) (A:wc h d k e ds b) (B:ds.length≤1000) (C:∀h,Pu (Nr [b,.str (tx L)] h) h y) (E:∀h,Eg y .non h=.ok (.bl true) h)
 (q:∀g,wc g d k e (ds++[b]) y→Sx k e h g→Q (.str "ok") g):Wp (Cd [.loc d,.str (tx L)] h) Q:=by
 refine GZ (Rk v w A fun l n=>?_);have c:=A.sm n;change We (Al 4 Im [.loc d,.str (tx L)] l) _ _;refine Eq.mpr DY ?_;simp only [Im,DI,PU,Jy,Jz,JG,KU];change We (D0 "Desk" "kept" (.loc d) l) _ _;rw [EB c.a1,CK];rw [DL c.a2,CK,HN];refine (K9 c.a2).we fun i o=>?_;have F:=c.sm o;simp;have G:Pu (Ew [b,.str (tx L)] i) i .non:=by change Wp (Al 2 F8 [b,.str (tx L)] i) _;refine Eq.mpr An ?_;simp [a "show" (by decide),a "lit" (by decide),a "left" (by decide),a "bound" (by decide),a "fours" (by decide),a "counts" (by decide),Sm.refl]
 refine G.we fun N p=>?_;have f:=F.sm p;simp [YG,z,EB f.a1,DL (m:="board") f.a2];refine (K9 f.a2).we fun H r=>?_;refine (C H).we fun O t=>?_;simp [E];refine wD.we fun P u=>?_;have j:=((f.sm r).sm t).sm u;simp [EB j.a1,DL (m:="change_to") j.a2];refine Wp.we (La j B fun I J M=>?_);exact q I J ((FI (((((n.trans o).trans p).trans r).trans t).trans u)).trans M)
end
section
variable {h:HD} {d k e H W:Nat} {ds:List D} {f:BF}
def RD (j:Nat):List Nat:=(askW.getD j "").cps.toList
def ZJ {j:Nat} (b:j<6) (g:SZ H) (i:SZ W) (A:wc h d k e ds (bD H W f)):Pu (Cd [.loc d,.str (askW.getD j "")] h) h (.str (tx (Dv H W f j))):=by
 have a:∀j<6,(RD j).length≤900∧(∀x∈RD j,x≠32)∧tx (RD j)=askW.getD j "":=by decide +kernel
 obtain ⟨l,m,c⟩:=a j b;rw [←c];refine qq l m A fun n=>?_;rw [c];exact qh b g i
def qs {H W:Nat} {f:BF}:Eg (bD H W f) .non h=.ok (.bl true) h:=rfl
noncomputable def doW:List Str:=["road","form","turn"]
def FK (H W:Nat):Nat→Nat×Nat
 |2=>(W,H)
 |_=>(H,W)
def Lg (H W:Nat) (f:BF):Nat→BF
 |0=>sw f (NO H W f) (NP H W f)
 |1=>FH f
 |_=>fun i j=>f j i
def qt {j:Nat} (l:j<3) (c:SZ H) (g:SZ W):Pu (Nr [bD H W f,.str (doW.getD j "")] h) h (bD (FK H W j).1 (FK H W j).2 (Lg H W f j)):=by
 match j,l with
 |0,_=>change Wp (Al 2 Nq [bD H W f,.str "road"] h) _;refine Eq.mpr An ?_;simp [Ce];refine (Zt c g).wp fun n m=>?_;exact (K6 (p:=NO H W f) (q:=NP H W f) c g).wp fun i s=>⟨rfl,m.trans s⟩
 |1,_=>change Wp (Al 2 Nq [bD H W f,.str "form"] h) _;refine Eq.mpr An ?_;simp [Ce,A6 (a:="form") (b:="road") (by decide)];exact (nD c g).wp fun i s=>⟨rfl,s⟩
 |2,_=>change Wp (Al 2 Nq [bD H W f,.str "turn"] h) _;refine Eq.mpr An ?_;simp [Ce,A6 (a:="turn") (b:="road") (by decide),A6 (a:="turn") (b:="form") (by decide)];exact (YU c g).wp fun i s=>⟨rfl,s⟩
def qu {j:Nat} (c:j<3) (a:SZ H) (b:SZ W) {x:D}:Pu (CD [.str (doW.getD j ""),x,bD H W f] h) h (bD (FK H W j).1 (FK H W j).2 (Lg H W f j)):=by
 match j,c with
 |0,_=>exact qi a b
 |1,_=>exact qj a b
 |2,_=>exact qk a b
def qv {j:Nat} (g:j<3) (i:SZ H) (l:SZ W) {Q:D→HD→Prop} (A:wc h d k e ds (bD H W f)) (m:ds.length≤1000)
 (q:∀a,wc a d k e (ds++[bD H W f]) (bD (FK H W j).1 (FK H W j).2 (Lg H W f j))→Sx k e h a→Q (.str "ok") a):Wp (Cd [.loc d,.str (doW.getD j "")] h) Q:=by
 have c:∀j<3,((doW.getD j "").cps.toList).length≤900∧(∀x∈(doW.getD j "").cps.toList,x≠32)∧tx ((doW.getD j "").cps.toList)=doW.getD j ""∧¬doW.getD j ""="undo"∧∀s∈askW,¬doW.getD j ""=s:=by decide +kernel
 obtain ⟨n,o,b,p,r⟩:=c j g;rw [←b];refine qr n o (by rw [b];exact p) (by rw [b];exact r) A m (fun a=>?_) (fun a=>qs) q;rw [b];exact qt g i l
end
def qw {x:Nat} (a:x<10):JI (.str (tx [48+x])) h=.ok (.int (x:Nat)) h:=by
 have k:∀x<10,PySem.intText? (tx [48+x])=some ((x:Nat):Int):=by decide +kernel
 unfold JI;simp only [k x a];rw [if_pos (by show (tx [48+x]).length≤640;rw [C6];simp)]
def Bw (xs:List Nat):List (List Nat):=xs.map fun x=>[48+x]
def intsD (xs:List Nat):List D:=xs.map fun x=>.int ((x:Nat):Int)
section
variable {h:HD} {d k e l:Nat} {ds:List D} {b:D} {w R:List Nat} {xs:List Nat}
def qx (t:R.length≤900) (m:∀x∈xs,x<10) (g:Bf 32 R=Bw xs) {Q:D→HD→Prop} (q:∀l c,Sm h c→c[l]?=some (.lst (intsD xs))→Q (.loc l) c):Wp (M8 [.str (tx R)] h) Q:=by
 change Wp (Al 2 M7 [.str (tx R)] h) _;refine Eq.mpr An ?_;change Wp (M7 [some (.str (tx R)),none] h) _;simp only [M7,Ba,Cj];refine nU rfl t fun l u v _ o=>?_;refine Eq.mpr Ae ?_;rw [Ba,O9,CJ,BM];have y:=Ri 32 R;have p:=nV (h:=u) (ρ:=[some (.str (tx R)),some (.loc l)]) (i:=1) rfl o (fun w j=>by have:=y.2 w j;omega) (by omega);have z:(Bf 32 R).all Iq=true:=by rw [g];refine qaT.mpr fun w j=>?_;obtain ⟨x,a,rfl⟩:=qaO.mp j;have:=m x a;simp [Iq];omega
 rw [z] at p;refine p.wp fun G A=>?_;rw [B2];refine wD.wp fun H B=>?_;refine Eq.mpr Ae ?_;rw [Hv];have s:=A.trans B;have C:=s _ _ o;have em:(Bf 32 R).map (fun w=>D.str (tx w))=xs.map fun x=>D.str (tx [48+x]):=by rw [g,Bw,BQ];rfl
 have f:=YH (ρ:=[some (.str (tx R)),some (.loc l)]) (i:=1) rfl C;rw [em] at f;have nx:xs.length=(Bf 32 R).length:=by rw [g,Bw,Ci]
 refine CV (xs:=xs) (φ:=fun x=>.str (tx [48+x])) (fun _=>true) (fun x=>.int ((x:Nat):Int)) (fun x=>[some (.str (tx [48+x]))]) f (Ct (by omega)) (fun _ _=>rfl) (fun x _ c E=>⟨rfl,.refl _⟩) (fun x a _ c E=>?_) fun n I F r=>?_
 ·unfold Pu
  show Wp (JI (.str (tx [48+x])) c) _
  rw [qw (m x a)];exact ⟨rfl,.refl _⟩
 ·rw [B8] at r;exact q _ _ ((v.trans s).trans F) r
def J0 (A:wc h d k e ds b) (c:∀x∈w,x≠32) (j:(w++32::R).length≤900) (n:¬tx w=("alike":Str)) (f:¬tx w=("board":Str)) (o:∀x∈xs,x<10) (p:Bf 32 R=Bw xs) {Q:D→HD→Prop} {E:Str→List (Str×D)→HD→Prop}
 (q:∀l g,Sm h g→g[l]?=some (.lst (intsD xs))→We (Ij [.loc d,.str (tx w),.loc l] g) (fun _ f=>Q (.str "ok") f) E):We (Cd [.loc d,.str (tx (w++32::R))] h) Q E:=by
 have i:R.length≤900:=by rw [DE,Dc] at j;omega
 refine Rj c j fun a s=>?_;have r:=A.sm s;rw [DI];unfold JZ;have t:Az (.str (tx w)) (.str "alike") a=.ok (.bl false) a:=by
  show Out.ok (D.bl (tx w=="alike")) _=_
  rw [beq_eq_false_iff_ne.mpr n]
 have u:Az (.str (tx w)) (.str "board") a=.ok (.bl false) a:=by
  show Out.ok (D.bl (tx w=="board")) _=_
  rw [beq_eq_false_iff_ne.mpr f]
 simp only [HL,HM,HQ,F0,Fy,HP,t,CK]
 show We (Ir _ a) _ _
 unfold Ir;simp only [DI,HL,HM,HQ,F0,Fy,HP,u,CK]
 show We (AU _ _ a) _ _
 simp only [MC,JG,F0,Fy,Nz (m:="do_at") r.a1,CK,Jz,Jy,HN];refine Wp.we (qx i o p fun l y B C=>?_);exact We.mono (q l y (s.trans B) C) (fun v F z=>z) fun _ _ _ z=>z
end
noncomputable def IA:List Nat:=[108,105,103,104,116]
def IB:List Nat:=[114,111,119]
noncomputable def IC:List Nat:=[99,111,108,117,109,110]
def EF (w:List Nat) (x:List Nat):List Nat:=w++32::By [32] (Bw x)
def qy (H W:Nat):Option (BF)→D
 |some f=>bD H W f
 |none=>.non
structure J1 (H W:Nat) (f:BF) (w xs:List Nat) (r:Option (BF)):Prop where
 made:∀(h:HD) (l:Nat),h[l]?=some (.lst (intsD xs))→Pu (CD [.str (tx w),.loc l,bD H W f] h) h (qy H W r)
 done:∀(h:HD) (d k e:Nat) (ds:List D) (Q:D→HD→Prop) (f':BF),r=some f'→wc h d k e ds (bD H W f)→ds.length≤1000→(∀h',wc h' d k e (ds++[bD H W f]) (bD H W f')→Sx k e h h'→Q (.str "ok") h')→Wp (Cd [.loc d,.str (tx (EF w xs))] h) Q
 none_:∀(h:HD) (d k e:Nat) (ds:List D),r=none→wc h d k e ds (bD H W f)→Er (Cd [.loc d,.str (tx (EF w xs))] h) h "NoLine"
section
variable {H W:Nat} {f:BF} {h:HD} {d k e l r c:Nat} {ds:List D}
def NQ {x:Nat} (a:x<10):Bf 32 (By [32] (Bw [x]))=Bw [x]:=by
 have:∀x<10,Bf 32 (By [32] (Bw [x]))=Bw [x]:=by decide +kernel
 exact this x a
def ZK {x y:Nat} (a:x<10) (b:y<10):Bf 32 (By [32] (Bw [x,y]))=Bw [x,y]:=by
 have:∀x<10,∀y<10,Bf 32 (By [32] (Bw [x,y]))=Bw [x,y]:=by decide +kernel
 exact this x a y b
def NR {n r:Nat} (a:¬r<n):ED n (.int (r:Nat))=false:=by simp [ED];omega
def RE:Az (.int 1) (.int 1) h=.ok (.bl true) h:=rfl
def RF:Az (.int 2) (.int 2) h=.ok (.bl true) h:=rfl
def ZL (A:wc h d k e ds (bD H W f)) (E:h[l]?=some (.lst (intsD [r]))) {Q:D→HD→Prop} {g:Str→List (Str×D)→HD→Prop} (q:∀j,Sm h j→We (K2 [.loc k,.int (r:Nat)] j) (fun _=>Q .non) g):We (Ij [.loc d,.str (tx IB),.loc l] h) Q g:=by change We (Al 3 Np [.loc d,.str "row",.loc l] h) _ _;refine Eq.mpr DY ?_;have o:Au (.loc l) h=.ok (.int 1) h:=GJ E;simp [o,Ce,A6 (a:="row") (b:="light") (by decide),NC,RE,RF];refine wD.we fun i s=>?_;have n:=A.sm s;have p:Ah (.loc l) (.int 0) i=.ok (.int (r:Nat)) i:=B4 (k:=0) (s _ _ E) rfl;simp [EB n.a1,DL (m:="row") n.a2,p];exact q i s
def ZM (A:wc h d k e ds (bD H W f)) (E:h[l]?=some (.lst (intsD [c]))) {Q:D→HD→Prop} {g:Str→List (Str×D)→HD→Prop} (q:∀n,Sm h n→We (K3 [.loc k,.int (c:Nat)] n) (fun _=>Q .non) g):We (Ij [.loc d,.str (tx IC),.loc l] h) Q g:=by change We (Al 3 Np [.loc d,.str "column",.loc l] h) _ _;refine Eq.mpr DY ?_;have p:Au (.loc l) h=.ok (.int 1) h:=GJ E;simp [p,Ce,A6 (a:="column") (b:="light") (by decide),A6 (a:="column") (b:="row") (by decide),NC,RE,RF];refine wD.we fun u s=>?_;refine wD.we fun i j=>?_;have o:=A.sm (s.trans j);have t:Ah (.loc l) (.int 0) i=.ok (.int (c:Nat)) i:=B4 (k:=0) (j _ _ (s _ _ E)) rfl;simp [EB o.a1,DL (m:="column") o.a2,t];exact q i (s.trans j)
def ZN (A:wc h d k e ds (bD H W f)) (E:h[l]?=some (.lst (intsD [r,c]))) {Q:D→HD→Prop} {a:Str→List (Str×D)→HD→Prop} (q:∀g,Sm h g→We (JN [.loc k,.int (r:Nat),.int (c:Nat)] g) (fun _=>Q .non) a):We (Ij [.loc d,.str (tx IA),.loc l] h) Q a:=by change We (Al 3 Np [.loc d,.str "light",.loc l] h) _ _;refine Eq.mpr DY ?_;have j:Au (.loc l) h=.ok (.int 2) h:=GJ E;simp [j,Ce,NC,RE,RF];refine wD.we fun b s=>?_;have i:=A.sm s;have n:Ah (.loc l) (.int 0) b=.ok (.int (r:Nat)) b:=B4 (k:=0) (s _ _ E) rfl;have o:Ah (.loc l) (.int 1) b=.ok (.int (c:Nat)) b:=B4 (k:=1) (s _ _ E) rfl;simp [EB i.a1,DL (m:="light") i.a2,n,o];exact q b s
def qz (m:SZ H) (n:SZ W) (o:r<10):J1 H W f IB [r] (if r<H then some (sw f (fun i=>i==r) fun _=>false) else none):=by
 have g:∀x∈[r],x<10:=fun x g=>by rw [qaG] at g;omega
 have p:(EF IB [r]).length≤900:=by simp [EF,IB,Bw,By]
 refine ⟨fun h l E=>?_,fun h d k e ds Q B a A u q=>?_,fun h d k e ds a A=>?_⟩
 ·have:=ql (h:=h) (f:=f) m n E;split
  ·rename_i z;rw [if_pos z] at this;exact this
  ·rename_i z;rw [if_neg z] at this;exact this
 ·split at a
  ·rename_i z;cases a;refine GZ (J0 A (by decide) p (by decide +kernel) (by decide +kernel) g (NQ o) fun l v s E=>?_);refine ZL (A.sm s) E fun w b=>Wp.we (oD m n ((A.sm s).sm b) u z fun t y j=>?_);exact q t y ((FI (s.trans b)).trans j)
  ·cases a
 ·split at a
  ·cases a
  ·rename_i z;refine J0 A (by decide) p (by decide +kernel) (by decide +kernel) g (NQ o) fun l v s E=>?_;refine ZL (A.sm s) E fun w b=>(oE (x:=.int (r:Nat)) ((A.sm s).sm b) trivial (NR z)).we fun t j=>⟨rfl,rfl,(s.trans b).trans j⟩
def qA (i:SZ H) (n:SZ W) (o:c<10):J1 H W f IC [c] (if c<W then some (sw f (fun _=>false) fun j=>j==c) else none):=by
 have g:∀x∈[c],x<10:=fun x g=>by rw [qaG] at g;omega
 have p:(EF IC [c]).length≤900:=by simp [EF,IC,Bw,By]
 refine ⟨fun h l E=>?_,fun h d k e ds Q B a A u q=>?_,fun h d k e ds a A=>?_⟩
 ·have:=qm (h:=h) (f:=f) i n E;split
  ·rename_i z;rw [if_pos z] at this;exact this
  ·rename_i z;rw [if_neg z] at this;exact this
 ·split at a
  ·rename_i z;cases a;refine GZ (J0 A (by decide) p (by decide +kernel) (by decide +kernel) g (NQ o) fun l v s E=>?_);refine ZM (A.sm s) E fun w b=>Wp.we (oF i n ((A.sm s).sm b) u z fun t y m=>?_);exact q t y ((FI (s.trans b)).trans m)
  ·cases a
 ·split at a
  ·cases a
  ·rename_i z;refine J0 A (by decide) p (by decide +kernel) (by decide +kernel) g (NQ o) fun l v s E=>?_;refine ZM (A.sm s) E fun w b=>(oG (x:=.int (c:Nat)) i.1 ((A.sm s).sm b) trivial (NR z)).we fun t m=>⟨rfl,rfl,(s.trans b).trans m⟩
def qB (j:SZ H) (o:SZ W) (p:r<10) (t:c<10):J1 H W f IA [r,c] (if r<H∧c<W then some (DD f r c) else none):=by
 have i:∀x∈[r,c],x<10:=fun x i=>by simp at i;omega
 have u:(EF IA [r,c]).length≤900:=by simp [EF,IA,Bw,By]
 refine ⟨fun h l E=>?_,fun h d k e ds Q G b A v q=>?_,fun h d k e ds b A=>?_⟩
 ·have:=qp (h:=h) (f:=f) j o E;split
  ·rename_i z;rw [if_pos z] at this;exact this
  ·rename_i z;rw [if_neg z] at this;exact this
 ·split at b
  ·rename_i z;cases b;refine GZ (J0 A (by decide) u (by decide +kernel) (by decide +kernel) i (ZK p t) fun l w s E=>?_);refine ZN (A.sm s) E fun B a=>Wp.we (oA j o ((A.sm s).sm a) v z.1 z.2 fun m C g=>?_);exact q m C ((FI (s.trans a)).trans g)
  ·cases b
 ·split at b
  ·cases b
  ·rename_i z;refine J0 A (by decide) u (by decide +kernel) (by decide +kernel) i (ZK p t) fun l w s E=>?_;refine ZN (A.sm s) E fun B a=>?_
   by_cases n:r<H
   ·exact (oC (y:=.int (c:Nat)) j.1 ((A.sm s).sm a) n trivial (NR fun F=>z ⟨n,F⟩)).we fun m g=>⟨rfl,rfl,(s.trans a).trans g⟩
   ·exact (oB (x:=.int (r:Nat)) ((A.sm s).sm a) trivial (NR n)).we fun m g=>⟨rfl,rfl,(s.trans a).trans g⟩
end
def tt (x:List (List Int)):D:=.tup (x.map fun r=>.tup (r.map fun i=>.int i))
def ZO:∀a b:List Int,PyData.eqvAll (a.map fun i=>.int i) (b.map fun i=>.int i)=decide (a=b)
 |[],[]=>rfl
 |[],_::_=>rfl
 |_::_,[]=>rfl
 |x::a,y::b=>by rw [Bk,Bk,PyData.eqvAll,ZO a b,qb4];simp [PyData.eqv]
def RG:∀a b:List (List Int),PyData.eqvAll (a.map fun r=>.tuple (r.map fun i=>.int i)) (b.map fun r=>.tuple (r.map fun i=>.int i))=decide (a=b)
 |[],[]=>rfl
 |[],_::_=>rfl
 |_::_,[]=>rfl
 |x::a,y::b=>by rw [Bk,Bk,PyData.eqvAll,RG a b,PyData.eqv,ZO,qb4];simp
def qC {x y:List (List Int)}:Az (tt x) (tt y) h=.ok (.bl (decide (x=y))) h:=by have py:∀z:List (List Int),Py (tt z) (.tuple (z.map fun r=>.tuple (r.map fun i=>.int i))):=fun z=>(Mq (n:=1) fun i _=>Mq (n:=0) fun j _=>pyn_int).py (by decide);have e:=VA (h:=h) (py x) (py y);rw [PyData.eqv,RG] at e;exact e
def qD {x y:List (List Int)}:Bt (tt x) (tt y) h=.ok (.bl (!decide (x=y))) h:=by have py:∀z:List (List Int),Py (tt z) (.tuple (z.map fun r=>.tuple (r.map fun i=>.int i))):=fun z=>(Mq (n:=1) fun i _=>Mq (n:=0) fun j _=>pyn_int).py (by decide);have e:=ic (h:=h) (py x) (py y);rw [PyData.eqv,RG] at e;exact e
def RH (b:Bool):Int:=if b then 1 else 0
def ID (H W:Nat) (f:BF):List (List Int):=(List.range H).map fun i=>(List.range W).map fun j=>RH (f i j)
noncomputable def Ge (H W:Nat) (f a:BF):Bool:=decide (∀i,i<H→∀j,j<W→f i j=a i j)
def map_rng {d:Type} {n:Nat} {a b:Nat→d}:(List.range n).map a=(List.range n).map b↔∀i,i<n→a i=b i:=by rw [List.map_inj_left];exact ⟨fun h i c=>h i (qb3.mpr c),fun h i c=>h i (qb3.mp c)⟩
section
variable {H W:Nat} {f f' g g':BF} {h:HD} {p q p' q':Nat→Bool}
def RI:Ge H W f f'=true↔∀i,i<H→∀j,j<W→f i j=f' i j:=by unfold Ge;exact decide_eq_true_iff
def litI_inj {a b:Bool}:RH a=RH b↔a=b:=by cases a<;>cases b<;>decide
def qE:ID H W f=ID H W f'↔∀i,i<H→∀j,j<W→f i j=f' i j:=by
 unfold ID;rw [map_rng];constructor
 ·intro e i a j b;have:=map_rng.mp (e i a) j b;exact litI_inj.mp this
 ·intro e i a;exact map_rng.mpr fun j b=>litI_inj.mpr (e i a j b)
def ZP:decide (ID H W f=ID H W f')=Ge H W f f':=by rw [qb4,decide_eq_true_iff,RI];exact qE
def NS:bD H W f=tt (ID H W f):=by
 unfold bD tt ID As;rw [BQ]
 congr 1
 refine Cf fun i _=>?_
 show D.tup _=D.tup _
 rw [BQ];rfl
def qF:Az (bD H W f) (bD H W f') h=.ok (.bl (Ge H W f f')) h:=by rw [NS,NS,qC,ZP]
def qG:Bt (bD H W f) (bD H W f') h=.ok (.bl (!Ge H W f f')) h:=by rw [NS,NS,qD,ZP]
def al (H W:Nat) (f f':BF):Bool:=Ge H W (FH f) (FH f')
def ZQ (e:∀i,i<H→∀j,j<W→(f i j=f' i j↔g i j=g' i j)):Ge H W f f'=Ge H W g g':=by rw [qb4,RI,RI];exact ⟨fun z i a j b=>(e i a j b).mp (z i a j b),fun z i a j b=>(e i a j b).mpr (z i a j b)⟩
def qH:Ge H W (sw f (JW f f') (JV f f')) f'=al H W f f':=ZQ fun i n j o=>by unfold sw JW JV FH;generalize f i j=a;generalize f' i j=b;generalize f i 0=c;generalize f' i 0=d;generalize f 0 0=e;generalize f' 0 0=k;generalize f 0 j=l;generalize f' 0 j=m;revert a b c d e k l m;decide
def qI (a:SZ H) (b:SZ W):Pu (JP [bD H W f,bD H W f'] h) h (K7 H W f f' (al H W f f')):=
 nB a b fun h=>by rw [qG,qH]
def qJ {b:Bool}:Eg (K7 H W f f' b) .non h=.ok (.bl b) h:=by cases b<;>rfl
def qK (a:SZ H) (b:SZ W):Pu (JR [bD H W f,bD H W f'] h) h (.bl (al H W f f')):=
 YB (fun h=>qI a b) fun h=>qJ
end
def RJ:ME:=C0 (Aa Az (Ab (Ai Au) (Ac (Ad 2) (Af))) (Ab (Ai Au) (Ac (Ad 1) (Af)))) (C0 (Aa Az (Ab (Ai Au) (Ac (Aa Ah (Ad 2) (mC (.int 0))) (Af))) (Ab (Ai Au) (Ac (Aa Ah (Ad 1) (mC (.int 0))) (Af)))) (Aa Az (Ab Ie (Ac (Ad 2) (Af))) (Ab Ie (Ac (Ad 1) (Af)))))
def RK:MS:=AM (Am 3 RJ) (Ak (AR (Ac (Ad 2) (Ac (Aa Ah (AO (Ac (mC (.str "no")) (Ac (mC (.str "yes")) (Af)))) (Ab (Ai FS) (Ac (Ad 3) (Af)))) (Af)))))
def qL:QF=AM (Am 2 (Ab Ic (Ac (Ad 1) (Ac (Ab JM (Ac (Ad 0) (Ac (Ab (Ai Au) (Ac (Ad 1) (Af))) (Af)))) (Ac (Ab JM (Ac (Ad 0) (Ac (Ab (Ai Au) (Ac (Aa Ah (Ad 1) (mC (.int 0))) (Af))) (Af)))) (Af)))))) (AM (AC (Aq (Aa Az (Ab Bz (Ac (Ad 0) (Ac (mC (.int 3)) (Af)))) (mC (.int 0)))) (Am 2 (Ab GV (Ac (Ad 0) (Ac (Aa Ao (mC (.int 1)) (Ab Bz (Ac (Ad 0) (Ac (mC (.int 3)) (Af))))) (Ac (Aa Ao (mC (.int 1)) (Ab Bz (Ac (Ad 0) (Ac (mC (.int 3)) (Af))))) (Af)))))) (AG)) RK):=rfl
section
variable {H W H' W':Nat} {f f':BF} {h:HD} {d k e:Nat} {ds:List D}
def qM (c:SZ H) (g:SZ W) (a:1≤H'∧H'≤8) (b:1≤W'∧W'≤8) (n:¬(H=H'∧W=W')):Pu (JP [bD H W f,bD H' W' f'] h) h .non:=by
 change Wp (Al 5 (QT) [bD H W f,bD H' W' f'] h) _;refine Eq.mpr (An) ?_;simp [-Ae];refine (YA c g a b).wp fun i s=>?_;have:(decide (H=H')&&decide (W=W'))=false:=by rw [Bool.eq_false_iff];simpa using n
 rw [this];simp [s]
def C9 (H W:Nat) (f:BF) (H' W':Nat) (f':BF):Bool:=decide (H=H'∧W=W')&&al H W f f'
def qN (c:SZ H) (g:SZ W) (a:1≤H'∧H'≤8) (b:1≤W'∧W'≤8):Pu (JR [bD H W f,bD H' W' f'] h) h (.bl (C9 H W f H' W' f')):=by
 by_cases z:H=H'∧W=W'
 ·obtain ⟨rfl,rfl⟩:=z;have:C9 H W f H W f'=al H W f f':=by simp [C9]
  rw [this];exact qK c g
 ·have:C9 H W f H' W' f'=false:=by unfold C9;rw [decide_eq_false z];rfl
  rw [this];exact YB (fun h=>qM c g a b z) fun h=>rfl
def yn (b:Bool):Str:=if b then "yes" else "no"
def qO (j:SZ H) (l:SZ W) (a:1≤H'∧H'≤8) (b:1≤W'∧W'≤8) (A:wc h d k e ds (bD H W f)):Pu (Cd [.loc d,.str (tx (GY++32::Cy H' W' f'))] h) h (.str (yn (C9 H W f H' W' f'))):=by
 have r:=JY (H:=H') (W:=W') (f:=f') a.2 b.2;have c:∀x∈GY,x≠32:=by decide
 refine GZ (Rj c (by simp [GY];omega) fun g s=>?_);have i:=A.sm s;rw [DI];unfold JZ;have n:Az (.str (tx GY)) (.str "alike") g=.ok (.bl true) g:=rfl;simp only [HL,HM,HQ,F0,Fy,HP,n,CK]
 show We (Ak _ _ g) _ _
 simp [NC,EB i.a1,DL (m:="board") i.a2];refine (K9 i.a2).we fun t o=>?_;refine (YE a b).we fun u p=>?_;refine (qN j l a b).we fun v q=>?_;have S:=((s.trans o).trans p).trans q;cases C9 H W f H' W' f'<;>simp [S,yn]
def EZ {b:Nat} {m:Int} {Q:D→HD→Prop} (c:wd h b) (g:0<m) (i:m≤1000) (q:∀(d:Nat) a,(d:Int)<m→wd a b→wk b h a→Q (.int (d:Nat)) a):Wp (Bz [.loc b,.int m] h) Q:=
 K4 c (by omega) (by omega) fun d a j l x s=>by
  obtain ⟨k,rfl⟩:∃k:Nat,d=(k:Int):=⟨d.toNat,by omega⟩
  exact q k a (by omega) x s
def qP {b:Bool} {l:Nat} (e:h[l]?=some (.lst [.str "no",.str "yes"])):Ah (.loc l) (.int (if b=true then 1 else 0)) h=.ok (.str (yn b)) h:=by
 cases b
 ·exact B4 (k:=0) e rfl
 ·exact B4 (k:=1) e rfl
def qQ:al H W f f'=al H W f' f:=ZQ fun i _ j _=>eq_comm
def NT {a b:Nat}:Az (.int (a:Nat)) (.int (b:Nat)) h=.ok (.bl (decide (a=b))) h:=by
 have e:=VA (h:=h) (x:=.int (a:Nat)) (y:=.int (b:Nat)) (pyn_int.py (by decide)) (pyn_int.py (by decide));refine Eq.trans e ?_
 congr 2
 rw [qb4];simp [PyData.eqv];omega
def qR {a:Nat}:Az (.int (a:Nat)) (.int 0) h=.ok (.bl (decide (a=0))) h:=NT (b:=0)
def qS (g:SZ H) (n:SZ W) (a:1≤H'∧H'≤8) (b:1≤W'∧W'≤8) {j l:Option D}:Pu (RJ [j,some (bD H W f),some (bD H' W' f'),l] h) h (.bl (C9 H W f H' W' f')):=by
 have i:=@NT;unfold RJ;simp [Pu,B9,BO g.1,BO a.1,Co,i]
 by_cases z:H'=H
 ·rw [decide_eq_true z]
  show Wp (C0 _ _ _ h) _
  simp [BO g.1,BO a.1,Co,i]
  by_cases c:W'=W
  ·rw [decide_eq_true c]
   show Wp (Aa Az _ _ _ h) _
   obtain rfl:=z;obtain rfl:=c;simp;refine (RB a b).wp fun o s=>?_;refine (RB a b).wp fun p m=>?_;rw [qF,AE];refine ⟨?_,s.trans m⟩;have:C9 H' W' f H' W' f'=al H' W' f f':=by simp [C9]
   rw [this,qQ];rfl
  ·rw [decide_eq_false c]
   show Wp (Out.ok (D.bl false) h) _
   have:C9 H W f H' W' f'=false:=by unfold C9;rw [decide_eq_false (fun q=>c q.2.symm)];rfl
   rw [this];exact ⟨rfl,.refl _⟩
 ·rw [decide_eq_false z]
  show Wp (Out.ok (D.bl false) h) _
  have:C9 H W f H' W' f'=false:=by unfold C9;rw [decide_eq_false (fun q=>z q.1.symm)];rfl
  rw [this];exact ⟨rfl,.refl _⟩
def ZR {b:Nat} {Q:D→HD→Prop} (m:wd h b) (n:SZ H) (o:SZ W) (a:1≤H'∧H'≤8) (c:1≤W'∧W'≤8) (p:wk b i h) (q:∀g,wd g b→wk b i g→Q (.tup [bD H' W' f',.str (yn (C9 H W f H' W' f'))]) g):Wp (RK [some (.loc b),some (bD H W f),some (bD H' W' f'),none] h) (Dj Q):=by unfold RK;rw [Ba];refine Eq.mpr Cj ?_;refine (qS n o a c).wp fun u s=>?_;refine Eq.mpr Ae ?_;simp;refine A4 (by simp) fun l r j t v _=>?_;rw [qP t,AE];exact q r ((m.sm s).sm j) (p.trans (CF (s.trans j)))
def qT {b:Nat} {Q:D→HD→Prop} (l:wd h b) (a:SZ H) (c:SZ W) (q:∀H' W' f' g,1≤H'∧H'≤8→1≤W'∧W'≤8→wd g b→wk b h g→Q (.tup [bD H' W' f',.str (yn (C9 H W f H' W' f'))]) g):Wp (Nd [.loc b,bD H W f] h) Q:=by
 change Wp (Al 4 QF [.loc b,bD H W f] h) _;refine Eq.mpr An ?_;rw [qL];simp [-Ae,B9,BO a.1,Co];refine Yx l a.2 fun p L m n=>?_;refine Yx m c.2 fun M N o r=>?_;refine (NH a c).wp fun O i=>?_;refine Eq.mpr Ae ?_;simp [-Ae];refine EZ (o.sm i) (by decide) (by decide) fun t P ld j u=>?_;have S:=((n.trans r).trans (CF i)).trans u;rw [qR,AE]
 by_cases z:t=0
 ·simp [-Ae,z];refine EZ j (by decide) (by decide) fun A R T v w=>?_;simp [-Ae];refine EZ v (by decide) (by decide) fun B U X y C=>?_;simp [-Ae];have E:(1:Int)+(A:Nat)=((A+1:Nat):Int):=by omega
  have F:(1:Int)+(B:Nat)=((B+1:Nat):Int):=by omega
  rw [E,F];refine Q7 y (by omega) (by omega) fun f' Y G I=>?_;refine Eq.mpr Ae ?_;exact ZR G a c (by omega) (by omega) (((S.trans w).trans C).trans I) fun J x s=>q _ _ _ _ (by omega) (by omega) x s
 ·simp [-Ae,z];refine Eq.mpr Ae ?_;exact ZR j a c a c S fun J x s=>q _ _ _ _ a c x s
end
section
variable {h:HD} {d k e:Nat} {ds:List D} {b x:D}
def Lh (A:wc h d k e ds b) (w:Wp (Cd [.loc d,x] h) Q):Wp (CL [.loc d,x] h) Q:=by
 change Wp (Al 4 Q2 [.loc d,x] h) _;refine Eq.mpr An ?_;simp [-Ae];refine Eq.mpr Ae ?_;rw [Ba];cases a:Cd [.loc d,x] h with
 |stuck=>rw [a] at w;exact w.elim
 |err C fs c=>rw [a] at w;exact w.elim
 |ok v c=>
  rw [a] at w;have:Ia Cd GT [some (.loc d),some x,some (.str "! other"),none] h=.ok (.nx,[some (.loc d),some x,some v,none]) c:=by unfold Ia;simp only [List.getElem?_cons_zero,N8,Nz (m:="say") A.a1,a];rfl
  rw [this,AE];refine Eq.mpr Ae ?_;simp;exact w
def RL (A:wc h d k e ds b) (a:Er (Cd [.loc d,x] h) h c) (i:c∈wo) (hk:∀h,Pu (GT [.exc c []] h) h (.str t)):Pu (CL [.loc d,x] h) h (.str t):=by
 change Wp (Al 4 Q2 [.loc d,x] h) _;refine Eq.mpr An ?_;simp [-Ae];refine Eq.mpr Ae ?_;rw [Ba];cases f:Cd [.loc d,x] h with
 |stuck=>rw [f] at a;exact a.elim
 |ok v g=>rw [f] at a;exact a.elim
 |err C fs g=>
  rw [f] at a;cases C with
  |str n tok=>
   obtain ⟨rfl,rfl,s⟩:=a;obtain ⟨v,j,l,rfl,o⟩:=(hk g).ex;have:Ia Cd GT [some (.loc d),some x,some (.str "! other"),none] h=.ok (.nx,[some (.loc d),some x,some (.str t),none]) j:=by unfold Ia;simp only [List.getElem?_cons_zero,N8,Nz (m:="say") A.a1,f];rw [if_pos i];simp only [Jx,l];rfl
   rw [this,AE];refine Eq.mpr Ae ?_;simp;exact s.trans o
  |_=>exact a.elim
def ZS:Pu (GT [.exc "NoRow" []] h) h (.str "! row"):=YC (w:="row") (j:=8) (by decide +kernel) (by decide +kernel) (by decide +kernel) (by decide +kernel) rfl (by decide +kernel) (by decide +kernel)
def qU:Pu (GT [.exc "NoLine" []] h) h (.str "! line"):=YC (w:="line") (j:=1) (by decide +kernel) (by decide +kernel) (by decide +kernel) (by decide +kernel) rfl (by decide +kernel) (by decide +kernel)
end
def RM:MS:=AM (Am 4 (Ab GV (Ac (Ad 0) (Ac (Aa Ao (mC (.int 1)) (Ab Bz (Ac (Ad 0) (Ac (mC (.int 8)) (Af))))) (Ac (Aa Ao (mC (.int 1)) (Ab Bz (Ac (Ad 0) (Ac (mC (.int 8)) (Af))))) (Af)))))) (Ak (AR (Ac (Aa Ao (mC (.str "board ")) (Ab Dr (Ac (Ad 4) (Af)))) (Ac (mC (.str "ok")) (Ac (Aa Ao (Ad 1) (AO (Ac (Ad 4) (Af)))) (Af))))))
def RN:MS:=AM (C3 (Bs 5 6) (Ab Nd (Ac (Ad 0) (Ac (Ad 2) (Af))))) (Ak (AR (Ac (Aa Ao (mC (.str "alike ")) (Ab Dr (Ac (Ad 5) (Af)))) (Ac (Ad 6) (Ac (Ad 1) (Af))))))
noncomputable def RO:MS:=Ak (Dg (Aq (Aa Az (Ab (Ai Au) (Ac (Ad 1) (Af))) (mC (.int 1)))) (AR (Ac (mC (.str "undo")) (Ac (mC (.str "! row")) (Ac (Ad 1) (Af))))) (AR (Ac (mC (.str "undo")) (Ac (mC (.str "ok")) (Ac (KW (Ad 1) (Ft) (EV (DT (mC (.int 1))))) (Af))))))
def RP:MS:=AM (Am 7 (Aa Ah (AO (Ac (mC (.str "show")) (Ac (mC (.str "lit")) (Ac (mC (.str "left")) (Ac (mC (.str "bound")) (Ac (mC (.str "fours")) (Ac (mC (.str "counts")) (Af)))))))) (Aa Cw (Ad 3) (mC (.int 5))))) (Ak (AR (Ac (Ad 7) (Ac (Ab FE (Ac (Ad 7) (Ac (Ad 2) (Af)))) (Ac (Ad 1) (Af))))))
noncomputable def NU:MS:=Am 8 (MY ["light","row","column"] (Ac (AO (Ac (Ab (Ai Au) (Ac (Ad 2) (Af))) (Ac (Ab (Ai Au) (Ac (Aa Ah (Ad 2) (mC (.int 0))) (Af))) (Af)))) (Ac (AO (Ac (Ab (Ai Au) (Ac (Ad 2) (Af))) (Af))) (Ac (AO (Ac (Ab (Ai Au) (Ac (Aa Ah (Ad 2) (mC (.int 0))) (Af))) (Af))) (Af)))) (Ad 7) (AO (Af)))
def NV:MS:=Am 9 (Ax [none,some 0] (A3 (Ad 8)) (AB 0) (AH) (Ab Bz (Ac (Ad 1) (Ac (Aa Ah (AO (Ac (Ad 0) (Ac (Ad 0) (Ac (Ad 0) (Ac (Aa Ao (Ad 0) (mC (.int 1))) (Ac (mC (.int 10)) (Af))))))) (Ab Bz (Ac (Ad 1) (Ac (mC (.int 5)) (Af))))) (Af)))))
def RQ:MS:=Am 4 (Ab CD (Ac (Ad 7) (Ac (Ad 9) (Ac (Ad 2) (Af)))))
def NW:MS:=Am 10 (Ck Cn Dq (mC (.str " ")) (Aa Ao (AO (Ac (Ad 7) (Af))) (Ax [none] (A3 (Ad 9)) (AB 0) (AH) (Ab (Ai strOfD) (Ac (Ad 0) (Af))))))
noncomputable def NX:MS:=Ak (Dg (Aq (Aa Hq (Ad 4) (mC .non))) (AR (Ac (Ad 10) (Ac (mC (.str "! line")) (Ac (Ad 1) (Af))))) (AR (Ac (Ad 10) (Ac (mC (.str "ok")) (Ac (Aa Ao (Ad 1) (AO (Ac (Ad 4) (Af)))) (Af))))))
def spE:MS:=AM (Am 7 (Aa Ah (AO (Ac (mC (.str "light")) (Ac (mC (.str "light")) (Ac (mC (.str "row")) (Ac (mC (.str "column")) (Ac (mC (.str "road")) (Ac (mC (.str "form")) (Ac (mC (.str "turn")) (Ac (mC (.str "light")) (Ac (mC (.str "row")) (Af))))))))))) (Aa Cw (Ad 3) (mC (.int 11))))) (AM NU (AM NV (AM RQ (AM NW NX))))
def ZT:MS:=AM (AC (Aq (Aa Dh (Ad 3) (mC (.int 3)))) RM (AG)) (AM (AC (Aq (Aa Az (Ad 3) (mC (.int 3)))) RN (AG)) (AM (AC (Aq (Aa Az (Ad 3) (mC (.int 4)))) RO (AG)) (AM (AC (Aq (Aa Dh (Ad 3) (mC (.int 11)))) RP (AG)) spE)))
def qV:Q0=AM (Eh 2 3 (Ac (Aa Ah (Ad 1) (DT (mC (.int 1)))) (Ac (Ab Bz (Ac (Ad 0) (Ac (mC (.int 20)) (Af)))) (Af)))) ZT:=rfl
def qW {l:Nat} (E:h[l]?=some (.lst (d++[x]))):Ah (.loc l) (.int (-1)) h=.ok x h:=by
 have e:Cu (d++[x]) (-1)=some x:=by
  have a:Dy (d++[x]).length (-1)=some d.length:=by unfold Dy;rw [if_neg (by decide)];simp;omega
  unfold Cu;rw [a];simp
 simp only [Ah,BB,E,e]
abbrev Bd:=Nat×Nat×(BF)
def A9 (x:Bd):D:=bD x.1 x.2.1 x.2.2
def Bg (x:Bd):Prop:=(1≤x.1∧x.1≤8)∧(1≤x.2.1∧x.2.1≤8)
def Bu (h:List Bd) (x:Bd):List D:=h.map A9++[A9 x]
structure D7 (hs:List Bd) (x:Bd) (row due:Str) (hs':List Bd) (x':Bd):Prop where
 say:∀(h:HD) (d k e:Nat) (Q:D→HD→Prop),wc h d k e (hs.map A9) (A9 x)→(∀h',wc h' d k e (hs'.map A9) (A9 x')→Sx k e h h'→Q (.str due) h')→Wp (CL [.loc d,.str row] h) Q
 ok:Bg x'∧∀y∈hs',Bg y
 len:hs'.length≤hs.length+1
section
variable {h:HD} {b p:Nat} {hs:List Bd} {x:Bd}
def ZU {H W:Nat} {f:BF} (a:SZ H) (c:SZ W) (ok:Bg x∧∀y∈hs,Bg y) (l:hs.length≤900):D7 hs x (tx (Ga++32::Cy H W f)) "ok" (hs++[x]) (H,W,f) where
 say:=fun h d k e Q A q=>by refine Lh A (om a c A (by simp;omega) fun g i s=>q g ?_ s);rw [Ca];exact i
 ok:=⟨⟨a,c⟩,fun y j=>by
  rcases qb1.mp j with z |z
  ·exact ok.2 y z
  ·rw [qaG] at z;rw [z];exact ok.1⟩
 len:=by simp
def NY (ok:Bg x∧∀y∈hs,Bg y) (w:∀(h:HD) (d k e:Nat),wc h d k e (hs.map A9) (A9 x)→Pu (CL [.loc d,.str r] h) h (.str a)):D7 hs x r a hs x where
 say:=fun h d k e Q A q=>(w h d k e A).wp fun c s=>q c (A.sm s) (FI s)
 ok:=ok
 len:=by omega
def Pu.answer {d k e:Nat} (A:wc h d k e a y) (w:Pu (Cd [.loc d,z] h) h v):Pu (CL [.loc d,z] h) h v:=Lh A w
def qX {H W:Nat} {f:BF} (a:SZ H) (c:SZ W) (ok:Bg x∧∀y∈hs,Bg y):D7 hs x (tx (GY++32::Cy H W f)) (yn (C9 x.1 x.2.1 x.2.2 H W f)) hs x:=
 NY ok fun h d k e A=>Pu.answer A (qO ok.1.1 ok.1.2 a c A)
def qY {j:Nat} (a:j<6) (ok:Bg x∧∀y∈hs,Bg y):D7 hs x (askW.getD j "") (tx (Dv x.1 x.2.1 x.2.2 j)) hs x:=
 NY ok fun h d k e A=>Pu.answer A (ZJ a ok.1.1 ok.1.2 A)
def qZ (ok:Bg x∧∀y∈([]:List Bd),Bg y):D7 [] x "undo" "! row" [] x:=
 NY ok fun h d k e A=>RL A (YN A) (by decide +kernel) fun h=>ZS
def ZV {y:Bd} (ok:Bg x∧∀a∈hs++[y],Bg a):D7 (hs++[y]) x "undo" "ok" hs y where
 say:=fun h d k e Q A q=>by rw [Ca] at A;exact Lh A (oq A fun c f s=>q c f s)
 ok:=⟨ok.2 y (by simp),fun z g=>ok.2 z (by simp [g])⟩
 len:=by simp;omega
def q0 {j:Nat} (a:j<3) (ok:Bg x∧∀y∈hs,Bg y) (i:hs.length≤900):D7 hs x (doW.getD j "") "ok" (hs++[x]) ((FK x.1 x.2.1 j).1,(FK x.1 x.2.1 j).2,Lg x.1 x.2.1 x.2.2 j) where
 say:=fun h d k e Q A q=>by refine Lh A (qv a ok.1.1 ok.1.2 A (by simp;omega) fun c f s=>q c ?_ s);rw [Ca];exact f
 ok:=⟨by
  match j,a with
  |0,_=>exact ⟨ok.1.1,ok.1.2⟩
  |1,_=>exact ⟨ok.1.1,ok.1.2⟩
  |2,_=>exact ⟨ok.1.2,ok.1.1⟩,fun y g=>by
  rcases qb1.mp g with z |z
  ·exact ok.2 y z
  ·rw [qaG] at z;rw [z];exact ok.1⟩
 len:=by simp
def q7 {w a:List Nat} (D:J1 x.1 x.2.1 x.2.2 w a none) (ok:Bg x∧∀y∈hs,Bg y):D7 hs x (tx (EF w a)) "! line" hs x:=
 NY ok fun h d k e A=>RL A (D.none_ h d k e _ rfl A) (by decide +kernel) fun h=>qU
def ra {w a:List Nat} {f:BF} (D:J1 x.1 x.2.1 x.2.2 w a (some f)) (ok:Bg x∧∀y∈hs,Bg y) (j:hs.length≤900):D7 hs x (tx (EF w a)) "ok" (hs++[x]) (x.1,x.2.1,f) where
 say:=fun h d k e Q A q=>by refine Lh A (D.done h d k e _ _ f rfl A (by simp;omega) fun c g s=>q c ?_ s);rw [Ca];exact g
 ok:=⟨ok.1,fun y i=>by
  rcases qb1.mp i with z |z
  ·exact ok.2 y z
  ·rw [qaG] at z;rw [z];exact ok.1⟩
 len:=by simp
end
def FinQ (h:HD) (b p:Nat) (g:List Bd) (x:Bd) (Q:D→HD→Prop):Prop:=∀r d a f c e,D7 g x r d a f→wd e b→wk b h e→e[c]?=some (.lst (Bu a f))→c≠b→(c=p∨h.length≤c)→Q (.tup [.str r,.str d,.loc c]) e
section
variable {h h0:HD} {b p:Nat} {hs:List Bd} {x:Bd} {Q:D→HD→Prop} {way:Nat} {c4 c5 c6 c7 c8 c9 c10:Option D}
def ZW (E:h[p]?=some (.lst (Bu hs x))):Ah (.loc p) (.int (-1)) h=.ok (A9 x) h:=qW E
def ZX {L:List Nat} (a:L.length≤100):Ao (.str "board ") (.str (tx L)) h=.ok (.str (tx (Ga++32::L))) h:=by have e:("board ":Str)=tx (Ga++[32]):=rfl;rw [e,WS (Ct (by simp [Ga];omega))];simp
def rb {L:List Nat} (a:L.length≤100):Ao (.str "alike ") (.str (tx L)) h=.ok (.str (tx (GY++32::L))) h:=by have e:("alike ":Str)=tx (GY++[32]):=rfl;rw [e,WS (Ct (by simp [GY];omega))];simp
def RR {y:Bd} {P:D→HD→Prop} (E:h[p]?=some (.lst (Bu hs x))) (j:hs.length≤900) (q:∀l a,Sm h a→h.length≤l→a[l]?=some (.lst (Bu (hs++[x]) y))→P (.loc l) a):Wp (BG [A9 y] h) fun z c=>Wp (Ao (.loc p) z c) P:=by refine A4 (by simp) fun l k s e m _=>?_;rw [MD (s _ _ E) e];refine A4 (Ct (by simp [Bu];omega)) fun d c f g i _=>?_;refine q d c (s.trans f) (by have:=s.len;omega) ?_;rw [g];simp [Bu]
def rf (E:h[p]?=some (.lst (Bu hs x))) (g:wd h b) (i:wk b h0 h) (ok:Bg x∧∀y∈hs,Bg y) (c:hs.length≤900) (C:b<h.length) (d:h0.length≤h.length) (a:p≠b) (q:FinQ h0 b p hs x Q):Wp (RM [some (.loc b),some (.loc p),some (A9 x),some (.int (way:Nat)),c4,c5,c6,c7,c8,c9,c10] h) (Dj Q):=by
 unfold RM;simp [-Ae];refine EZ g (by decide) (by decide) fun A F G j k=>?_;simp [-Ae];refine EZ j (by decide) (by decide) fun B H I m n=>?_;simp [-Ae];have o:(1:Int)+(A:Nat)=((A+1:Nat):Int):=by omega
 have r:(1:Int)+(B:Nat)=((B+1:Nat):Int):=by omega
 rw [o,r];refine Q7 m (by omega) (by omega) fun t J u v=>?_;refine Eq.mpr Ae ?_;simp;refine (Lf (by omega) (by omega)).wp fun L s=>?_;rw [ZX (JY (by omega) (by omega)),AE];have S:=(((k.trans n).trans v).trans (CF s))
 have e:=u.sm s;refine RR (y:=(A+1,B+1,t)) (S _ _ a E) c fun l M f w z=>?_;have N:=S.len e.lt;exact q _ _ _ _ _ _ (ZU (by omega) (by omega) ok c) (e.sm f) ((i.trans S).trans (CF f)) z (by omega) (.inr (by omega))
def rg (E:h[p]?=some (.lst (Bu hs x))) (e:wd h b) (f:wk b h0 h) (ok:Bg x∧∀y∈hs,Bg y) (d:p≠b) (q:FinQ h0 b p hs x Q):Wp (RN [some (.loc b),some (.loc p),some (A9 x),some (.int (way:Nat)),c4,c5,c6,c7,c8,c9,c10] h) (Dj Q):=by unfold RN;simp [-Ae];refine qT e ok.1.1 ok.1.2 fun H W j k a c g i=>?_;simp;refine (Lf a c).wp fun l s=>?_;rw [rb (JY a.2 c.2),AE];have S:=i.trans (CF s);exact q _ _ _ _ _ _ (qX a c ok) (g.sm s) (f.trans S) (S _ _ d E) d (.inl rfl)
def rh:LS.cutD (d++[y]) none (some (-1))=d:=by
 have e:HT.sIx (d++[y]).length 0 none=0:=rfl;have a:HT.sIx (d++[y]).length (d++[y]).length (some (-1))=d.length:=by
  unfold HT.sIx;simp
  try omega
 unfold LS.cutD;rw [e,a];simp
def ri (E:h[p]?=some (.lst (Bu hs x))) (a:wd h b) (s:wk b h0 h) (ok:Bg x∧∀y∈hs,Bg y) (j:hs.length≤900) (c:p≠b) (e:h0.length≤h.length) (q:FinQ h0 b p hs x Q):Wp (RO [some (.loc b),some (.loc p),some (A9 x),some (.int (way:Nat)),c4,c5,c6,c7,c8,c9,c10] h) (Dj Q):=by
 unfold RO;have f:Au (.loc p) h=.ok (.int ((hs.length+1:Nat))) h:=by rw [GJ E];simp [Bu]
 simp [f];rcases List.eq_nil_or_concat hs with rfl |⟨d,y,g⟩
 ·rw [if_pos (by simp)];simp;exact q _ _ _ _ _ _ (qZ ok) a s E c (.inl rfl)
 ·rw [List.concat_eq_append] at g;subst g;rw [if_neg (by simp;omega)];simp;have k:KV (.loc p) none (some (-1)) h=BG (Bu d y) h:=by
   unfold KV;simp only [E]
   congr 1
   unfold Bu;rw [rh];simp
  rw [k];refine A4 (Ct (by simp [Bu] at j ⊢;omega)) fun l n i m f _=>?_;have:=a.lt;exact q _ _ _ _ _ _ (ZV ok) (a.sm i) (s.trans (CF i)) m (by omega) (.inr (by omega))
def rj (E:h[p]?=some (.lst (Bu hs x))) (e:wd h b) (s:wk b h0 h) (ok:Bg x∧∀y∈hs,Bg y) (a:p≠b) (n:5≤way) (f:way<11) (q:FinQ h0 b p hs x Q):Wp (RP [some (.loc b),some (.loc p),some (A9 x),some (.int (way:Nat)),c4,c5,c6,c7,c8,c9,c10] h) (Dj Q):=by
 obtain ⟨j,rfl⟩:∃j,way=5+j:=⟨way - 5,by omega⟩
 have c:j<6:=by omega
 unfold RP;simp [-Ae];refine A4 (by simp) fun l d g i o _=>?_;have k:Ah (.loc l) (.int (5+(j:Int) - 5)) d=.ok (.str (askW.getD j "")) d:=by
  rw [show (5:Int)+j - 5=((j:Nat):Int) by omega];refine B4 i ?_
  match j,c with
  |0,_=>rfl
  |1,_=>rfl
  |2,_=>rfl
  |3,_=>rfl
  |4,_=>rfl
  |5,_=>rfl
 rw [k,AE];refine Eq.mpr Ae ?_;simp;refine (qg c ok.1.1 ok.1.2).wp fun r m=>?_;have S:=g.trans m;exact q _ _ _ _ _ _ (qY c ok) (e.sm S) (s.trans (CF S)) (S _ _ E) a (.inl rfl)
end
def RS:D→Nat
 |.int z=>z.toNat
 |_=>0
def rk {x:Nat} (a:x<10):LS.strOfD (.int (x:Nat)) h=.ok (.str (tx [48+x])) h:=by
 show (if ((x:Nat):Int).natAbs<4611686018427387904 then Out.ok (D.str (Str.ofString (toString ((x:Nat):Int)))) h else .stuck)=_
 rw [if_pos (by omega)]
 congr 2
 match x,a with
 |0,_=>rfl
 |1,_=>rfl
 |2,_=>rfl
 |3,_=>rfl
 |4,_=>rfl
 |5,_=>rfl
 |6,_=>rfl
 |7,_=>rfl
 |8,_=>rfl
 |9,_=>rfl
def rl {ss:List Nat}:intsD ss=(List.range ss.length).map fun i=>D.int ((ss.getD i 0:Nat):Int):=by
 unfold intsD;apply G6
 ·simp
 ·intro i h a;simp at h ⊢;simp [EG,h]
section
variable {h h0:HD} {b p l8:Nat} {y:D} {w:Str} {ss xs:List Nat} {Q:Fl×Ag→HD→Prop} {c3 c4 c5 c6 c8 c9 c10:Option D}
def rm (N:wd h b) (O:l8≠b) (F:h[l8]?=some (.lst (intsD ss))) (P:∀s∈ss,1≤s∧s≤8) (hn:ss.length≤2) (q:∀l xs a,wd a b→wk b h a→a[l]?=some (.lst (intsD xs))→xs.length=ss.length→(∀x∈xs,x<10)→h.length≤l→Q (.nx,[some (.loc b),some (.loc p),some y,c3,c4,c5,c6,some (.str w),some (.loc l8),some (.loc l),c10]) a):Wp (NV [some (.loc b),some (.loc p),some y,c3,c4,c5,c6,some (.str w),some (.loc l8),c9,c10] h) Q:=by
 unfold NV;refine Eq.mpr Cj ?_;unfold Ax;rw [AL,GD]
 show Wp (Out.ok (D.loc l8) h) _
 rw [AE,Fx F,AE];rw [if_pos (by simp [intsD];exact Ct (by omega)),AL];simp only;have R:=rl (ss:=ss);refine Wp.mono (Q:=fun G a=>(wd a b∧wk b h a)∧∃(g:Nat→Bool) (e:Nat→D),G=((List.range ss.length).filter g).map e∧(∀x∈List.range ss.length,g x=true→∃k:Nat,k<10∧e x=.int (k:Nat))∧∀x∈List.range ss.length,g x=true) ?_ fun G a z=>?_
 ·have:=Pe (src:=[(l8,intsD ss)]) (items:=intsD ss) (sg:=AB 0) (t:=AH) (f:=Ab Bz (Ac (Ad 1) (Ac (Aa Ah (AO (Ac (Ad 0) (Ac (Ad 0) (Ac (Ad 0) (Ac (Aa Ao (Ad 0) (mC (.int 1))) (Ac (mC (.int 10)) (Af))))))) (Ab Bz (Ac (Ad 1) (Ac (mC (.int 5)) (Af))))) (Af)))) (ρc:=[none,some (.loc b)]) (fun i=>D.int ((ss.getD i 0:Nat):Int)) (fun a=>wd a b∧wk b h a) (fun _ z=>z=true) (fun _ d=>∃k:Nat,k<10∧d=.int (k:Nat)) (fun i=>[some (D.int ((ss.getD i 0:Nat):Int)),some (.loc b)]) (fun a i=>Di (i.2 _ _ O F)) (List.range ss.length) h Lp ⟨N,wk.refl _ _⟩ (fun x _=>rfl) (fun x o h1 i=>?_)
  ·rw [←R] at this;exact this
  ·have r:=P (ss.getD x 0) (by have u:=qb3.mp o;simp [EG,u])
   generalize ss.getD x 0=s at r;simp;refine A4 (by simp) fun l H c n v _=>?_;refine EZ (i.1.sm c) (by decide) (by decide) fun k h3 lk S I=>?_;have T:=I _ _ (by have:=i.1.lt;omega) n;have U:∃m:Nat,(1≤m∧m≤10)∧([D.int (s:Nat),.int (s:Nat),.int (s:Nat),.int ((s:Nat)+1),.int 10]:List D)[k]?=some (.int (m:Nat)):=by
    match k,lk with
    |0,_=>exact ⟨s,by omega,rfl⟩
    |1,_=>exact ⟨s,by omega,rfl⟩
    |2,_=>exact ⟨s,by omega,rfl⟩
    |3,_=>exact ⟨s+1,by omega,rfl⟩
    |4,_=>exact ⟨10,by omega,rfl⟩
    |k+5,lk=>exact absurd lk (by omega)
   obtain ⟨m,W,A⟩:=U;rw [B4 T A,AE];refine EZ S (by omega) (by omega) fun d h4 ld X Y=>?_;exact ⟨⟨X,((i.2.trans (CF c)).trans I).trans Y⟩,d,by omega,rfl⟩
 ·obtain ⟨⟨J,L⟩,g,e,rfl,M,B⟩:=z;have Z:(List.range ss.length).filter g=List.range ss.length:=List.filter_eq_self.mpr B;rw [Z];refine A4 (Ct (by simp;omega)) fun l H c n v _=>?_;have eq:(List.range ss.length).map e=intsD ((List.range ss.length).map fun i=>RS (e i)):=by unfold intsD;rw [BQ];refine Cf fun i j=>?_;obtain ⟨k,_,C⟩:=M i j (B i j);simp [C,RS]
  rw [eq] at n;refine q l _ H (J.sm c) (L.trans (CF c)) n (by simp) (fun x E=>?_) (by have:=L.len J.lt;omega);obtain ⟨i,j,rfl⟩:=qaO.mp E;obtain ⟨k,hk,C⟩:=M i j (B i j);rw [C];simpa [RS] using hk
end
section
variable {h h0:HD} {b p l9:Nat} {x:Bd} {w:List Nat} {xs:List Nat} {Q:Fl×Ag→HD→Prop} {c0 c1 c2 c3 c4 c5 c6 c8 c9 c10:Option D}
def rn (o:h[l9]?=some (.lst (intsD xs))) (r:∀z∈xs,z<10) (F:xs.length≤2) (u:w.length≤10) (q:∀a,Sm h a→Q (.nx,[c0,c1,c2,c3,c4,c5,c6,some (.str (tx w)),c8,some (.loc l9),some (.str (tx (By [32] (w::Bw xs))))]) a):Wp (NW [c0,c1,c2,c3,c4,c5,c6,some (.str (tx w)),c8,some (.loc l9),c10] h) Q:=by
 unfold NW;refine Eq.mpr Cj ?_;rw [JA]
 show Wp (Aa Ao (AO (Ac (Ad 7) (Af))) _ _ h) _
 rw [Fq];simp only [Kw,BM,B2]
 show Wp (Out.ok (D.str (tx w)) h) _
 rw [AE];refine A4 (by simp) fun l v f y g _=>?_;have e:=f _ _ o;refine CV (src:=[(l9,intsD xs)]) (xs:=xs) (φ:=fun z=>.int ((z:Nat):Int)) (fun _=>true) (fun z=>.str (tx [48+z])) (fun z=>[some (.int ((z:Nat):Int))]) ?_ (Ct (by omega)) (fun _ _=>rfl) (fun z _ a _=>⟨rfl,.refl _⟩) (fun z A _ a G=>?_) fun m H i j=>?_
 ·rw [GD]
  show Wp (Out.ok (D.loc l9) v) _
  rw [AE,Fx e,AE];exact ⟨rfl,.refl _,fun c s=>Di (s _ _ e)⟩
 ·unfold Pu
  show Wp (LS.strOfD (.int (z:Nat)) a) _
  rw [rk (r z A)];exact ⟨rfl,.refl _⟩
 ·rw [B8] at j;rw [MD (i _ _ y) j];refine A4 (Ct (by simp;omega)) fun B c s k C _=>?_;have g:(([D.str (tx w)]++xs.map fun z=>D.str (tx [48+z])):List D)=(w::Bw xs).map fun t=>D.str (tx t):=by simp [Bw]
  rw [g] at k
  show Wp (Dq (.str (tx [32])) (.loc B) c) _
  rw [WR (n:=10) k (fun t d=>by
   rcases qa6.mp d with rfl |d
   ·exact u
   ·obtain ⟨z,_,rfl⟩:=qaO.mp d
    simp) (Ct (by simp [Bw];omega)),AE]
  have E:(w::Bw xs).map (fun t=>t)=w::Bw xs:=List.map_id' _;rw [E];exact q c ((f.trans i).trans s)
end
section
variable {h h0:HD} {b p:Nat} {x:Bd} {H W:Nat} {f:BF} {w:List Nat} {Q:Fl×Ag→HD→Prop} {c0 c1 c3 c4 c5 c6 c8 c9 c10:Option D}
noncomputable def IE (H W:Nat):Nat→List Nat
 |0=>[H,W]
 |1=>[H]
 |2=>[W]
 |_=>[]
def ro {k:Nat} (hk:k<4) (m:1≤H) (n:∀(x y z d:D) h,GQ ["light","row","column"] [x,y,z] (.str (tx w)) d h=.ok (([x,y,z,d]:List D).getD k d) h) (q:∀l e,Sm h e→h.length≤l→e[l]?=some (.lst (intsD (IE H W k)))→Q (.nx,[c0,c1,some (bD H W f),c3,c4,c5,c6,some (.str (tx w)),some (.loc l),c9,c10]) e):Wp (NU [c0,c1,some (bD H W f),c3,c4,c5,c6,some (.str (tx w)),c8,c9,c10] h) Q:=by
 unfold NU;refine Eq.mpr Cj ?_;unfold MY;rw [AL];simp [B9,BO m,Co];refine A4 (by simp) fun o J i r t _=>?_;refine A4 (by simp) fun u L g v A _=>?_;refine A4 (by simp) fun B j s C E _=>?_;rw [AL]
 show Wp (Out.ok (D.str (tx w)) j) _
 rw [AE,AL]
 show Wp (BG [] j) _
 refine A4 (by simp) fun F a c G I _=>?_;rw [n,AE];have M:=i.len;have N:=g.len;have O:=s.len;have S:Sm h a:=((i.trans g).trans s).trans c
 match k,hk with
 |0,_=>exact q o a S (by omega) (((g.trans s).trans c) _ _ r)
 |1,_=>exact q u a S (by omega) ((s.trans c) _ _ v)
 |2,_=>exact q B a S (by omega) (c _ _ C)
 |3,_=>exact q F a S (by omega) G
end
section
variable {h h0:HD} {b p:Nat} {hs:List Bd} {x:Bd} {Q:D→HD→Prop} {c3 c4 c5 c6 c8 c9 c10:Option D} {w xs:List Nat}
def E1:Option Bd→D
 |some y=>A9 y
 |none=>.non
def Gf (hs:List Bd) (x:Bd) (r:Str):Option Bd→Prop
 |some y=>D7 hs x r "ok" (hs++[x]) y
 |none=>D7 hs x r "! line" hs x
def rp {r:Option Bd} (E:h[p]?=some (.lst (Bu hs x))) (j:hs.length≤900) (d:wd h b) (s:wk b h0 h) (f:p≠b) (g:h0.length≤h.length) (c:Gf hs x a r) (q:FinQ h0 b p hs x Q):Wp (NX [some (.loc b),some (.loc p),some (A9 x),c3,some (E1 r),c5,c6,some (.str (tx w)),c8,c9,some (.str a)] h) (Dj Q):=by
 unfold NX;cases r with
 |none=>have e:Hq .non .non h=.ok (.bl true) h:=rfl;simp [E1,e];exact q _ _ _ _ _ _ c d s E f (.inl rfl)
 |some y=>have e:Hq (A9 y) .non h=.ok (.bl false) h:=rfl;simp [E1,e];have:=d.lt;exact RR (y:=y) E j fun l n i k m=>q _ _ _ _ _ _ c (d.sm i) (s.trans (CF i)) m (by omega) (.inr (by omega))
def rq {k:Nat} (hk:k<4) (C:∀(x y z d:D) h,GQ ["light","row","column"] [x,y,z] (.str (tx w)) d h=.ok (([x,y,z,d]:List D).getD k d) h) (F:w.length≤10) (E:h[p]?=some (.lst (Bu hs x))) (G:hs.length≤900) (j:wd h b) (I:wk b h0 h) (ok:Bg x∧∀y∈hs,Bg y) (c:p≠b) (m:h0.length≤h.length)
 (J:∀xs:List Nat,xs.length=(IE x.1 x.2.1 k).length→(∀z∈xs,z<10)→∃r:Option Bd,(∀h l,h[l]?=some (.lst (intsD xs))→Pu (CD [.str (tx w),.loc l,A9 x] h) h (E1 r))∧Gf hs x (tx (By [32] (w::Bw xs))) r) (q:FinQ h0 b p hs x Q):
 Wp ((AM NU (AM NV (AM RQ (AM NW NX)))) [some (.loc b),some (.loc p),some (A9 x),c3,c4,c5,c6,some (.str (tx w)),c8,c9,c10] h) (Dj Q):=by
 rw [Ba];refine ro (H:=x.1) (W:=x.2.1) (f:=x.2.2) hk ok.1.1.1 C fun T U n X L=>?_;refine Eq.mpr Ae ?_;rw [Ba];have Y:=j.lt;refine rm (ss:=IE x.1 x.2.1 k) (j.sm n) (by omega) L (fun s a=>?_) (by unfold IE;split<;>simp) fun o xs t M N u v e O=>?_
 ·obtain ⟨⟨Z,a2⟩,a3,a4⟩:=ok.1;unfold IE at a;split at a<;>simp at a<;>omega
 refine Eq.mpr Ae ?_;rw [Ba];obtain ⟨r,P,g⟩:=J xs v e;unfold RQ;refine Eq.mpr Cj ?_
 show Wp (CD [.str (tx w),.loc o,A9 x] t) _
 refine (P t o u).wp fun h3 i=>?_;refine Eq.mpr Ae ?_;rw [Ba];refine rn (i _ _ u) e (by rw [v];unfold IE;split<;>simp) F fun R A=>?_;refine Eq.mpr Ae ?_;have S:wk b h R:=(CF n).trans (N.trans (CF (i.trans A)));have B:=M.sm (i.trans A);exact rp (S _ _ c E) G B (I.trans S) c (by have:=S.len B.lt;omega) g q
end
section
variable {h h0:HD} {b p:Nat} {hs:List Bd} {x:Bd} {Q:D→HD→Prop} {c4 c5 c6 c7 c8 c9 c10:Option D} {w xs:List Nat}
def rr (ne:xs≠[]):By [32] (w::Bw xs)=EF w xs:=by
 cases xs with
 |nil=>exact absurd rfl ne
 |cons a l=>simp [EF,Bw,By]
def RT {r:Option (BF)} (D:J1 x.1 x.2.1 x.2.2 w xs r) (ne:xs≠[]) (ok:Bg x∧∀y∈hs,Bg y) (a:hs.length≤900):∃r:Option Bd,(∀h l,h[l]?=some (.lst (intsD xs))→Pu (CD [.str (tx w),.loc l,A9 x] h) h (E1 r))∧Gf hs x (tx (By [32] (w::Bw xs))) r:=by
 rw [rr ne];cases r with
 |none=>exact ⟨none,fun h l e=>D.made h l e,q7 D ok⟩
 |some f=>exact ⟨some (x.1,x.2.1,f),fun h l e=>D.made h l e,ra D ok a⟩
def FL (j:Nat):List Nat:=(doW.getD j "").cps.toList
def rA {j:Nat} (a:j<3) (ok:Bg x∧∀y∈hs,Bg y) (c:hs.length≤900):∃r:Option Bd,(∀h l,h[l]?=some (.lst (intsD []))→Pu (CD [.str (tx (FL j)),.loc l,A9 x] h) h (E1 r))∧Gf hs x (tx (By [32] (FL j::Bw []))) r:=by
 have k:∀j<3,tx (FL j)=doW.getD j ""∧By [32] (FL j::Bw [])=FL j:=by decide +kernel
 obtain ⟨d,f⟩:=k j a;rw [f,d];exact ⟨some ((FK x.1 x.2.1 j).1,(FK x.1 x.2.1 j).2,Lg x.1 x.2.1 x.2.2 j),fun h l e=>qu a ok.1.1 ok.1.2,q0 a ok c⟩
noncomputable def J2:Nat→List Nat
 |2 |8=>IB
 |3=>IC
 |4=>FL 0
 |5=>FL 1
 |6=>FL 2
 |_=>IA
def RU:Nat→Nat
 |2 |8=>1
 |3=>2
 |4 |5 |6=>3
 |_=>0
def rC {i:Nat} (n:i<9) (ok:Bg x∧∀y∈hs,Bg y) (k:hs.length≤900) (xs:List Nat) (a:xs.length=(IE x.1 x.2.1 (RU i)).length) (d:∀z∈xs,z<10):∃r:Option Bd,(∀h l,h[l]?=some (.lst (intsD xs))→Pu (CD [.str (tx (J2 i)),.loc l,A9 x] h) h (E1 r))∧Gf hs x (tx (By [32] (J2 i::Bw xs))) r:=by
 have e:∀xs:List Nat,xs.length=2→(∀z∈xs,z<10)→∃r:Option Bd,(∀h l,h[l]?=some (.lst (intsD xs))→Pu (CD [.str (tx IA),.loc l,A9 x] h) h (E1 r))∧Gf hs x (tx (By [32] (IA::Bw xs))) r:=fun xs a d=>by
  match xs,a with
  |[r,c],_=>exact RT (qB ok.1.1 ok.1.2 (d r (by simp)) (d c (by simp))) (by simp) ok k
 have g:∀xs:List Nat,xs.length=1→(∀z∈xs,z<10)→∃r:Option Bd,(∀h l,h[l]?=some (.lst (intsD xs))→Pu (CD [.str (tx IB),.loc l,A9 x] h) h (E1 r))∧Gf hs x (tx (By [32] (IB::Bw xs))) r:=fun xs a d=>by
  match xs,a with
  |[r],_=>exact RT (qz ok.1.1 ok.1.2 (d r (by simp))) (by simp) ok k
 have m:∀xs:List Nat,xs.length=1→(∀z∈xs,z<10)→∃r:Option Bd,(∀h l,h[l]?=some (.lst (intsD xs))→Pu (CD [.str (tx IC),.loc l,A9 x] h) h (E1 r))∧Gf hs x (tx (By [32] (IC::Bw xs))) r:=fun xs a d=>by
  match xs,a with
  |[r],_=>exact RT (qA ok.1.1 ok.1.2 (d r (by simp))) (by simp) ok k
 have f:∀j<3,∀xs:List Nat,xs.length=0→∃r:Option Bd,(∀h l,h[l]?=some (.lst (intsD xs))→Pu (CD [.str (tx (FL j)),.loc l,A9 x] h) h (E1 r))∧Gf hs x (tx (By [32] (FL j::Bw xs))) r:=fun j o xs a=>by
  match xs,a with
  |[],_=>exact rA o ok k
 match i,n with
 |0,_=>exact e xs a d
 |1,_=>exact e xs a d
 |2,_=>exact g xs a d
 |3,_=>exact m xs a d
 |4,_=>exact f 0 (by omega) xs a
 |5,_=>exact f 1 (by omega) xs a
 |6,_=>exact f 2 (by omega) xs a
 |7,_=>exact e xs a d
 |8,_=>exact g xs a d
def rE {i:Nat} (a:i<9):∀(x y z d:D) h,GQ ["light","row","column"] [x,y,z] (.str (tx (J2 i))) d h=.ok (([x,y,z,d]:List D).getD (RU i) d) h:=fun x y z d h=>by
 match i,a with
 |0,_=>rfl
 |1,_=>rfl
 |2,_=>rfl
 |3,_=>rfl
 |4,_=>rfl
 |5,_=>rfl
 |6,_=>rfl
 |7,_=>rfl
 |8,_=>rfl
def rF {i:Nat} (a:i<9) (E:h[p]?=some (.lst (Bu hs x))) (f:hs.length≤900) (d:wd h b) (j:wk b h0 h) (ok:Bg x∧∀y∈hs,Bg y) (e:p≠b) (g:h0.length≤h.length) (q:FinQ h0 b p hs x Q):Wp (spE [some (.loc b),some (.loc p),some (A9 x),some (.int ((11+i:Nat):Int)),c4,c5,c6,c7,c8,c9,c10] h) (Dj Q):=by
 unfold spE;rw [Ba];refine Eq.mpr Cj ?_;simp only [Fq,Kw,BM,Jj,B2,AE];refine A4 (by simp) fun l c s k t _=>?_;have m:Ah (.loc l) (.int (((11+i:Nat):Int) - 11)) c=.ok (.str (tx (J2 i))) c:=by
  rw [show ((11+i:Nat):Int) - 11=((i:Nat):Int) by omega];refine B4 k ?_
  match i,a with
  |0,_=>rfl
  |1,_=>rfl
  |2,_=>rfl
  |3,_=>rfl
  |4,_=>rfl
  |5,_=>rfl
  |6,_=>rfl
  |7,_=>rfl
  |8,_=>rfl
 show Wp (Out.ok (D.int ((11+i:Nat):Int)) c) _
 rw [AE]
 show Wp (Out.ok (D.int (((11+i:Nat):Int) - 11)) c) _
 rw [AE,m,AE];refine Eq.mpr Ae ?_;have n:RU i<4:=by
  match i,a with
  |0,_=>decide
  |1,_=>decide
  |2,_=>decide
  |3,_=>decide
  |4,_=>decide
  |5,_=>decide
  |6,_=>decide
  |7,_=>decide
  |8,_=>decide
 have o:(J2 i).length≤10:=by
  have:∀i<9,(J2 i).length≤10:=by decide +kernel
  exact this i a
 exact rq n (rE a) o (s _ _ E) f (d.sm s) (j.trans (CF s)) ok e (by have:=s.len;omega) (fun xs r d=>rC a ok f xs r d) q
end
section
variable {h:HD} {b p:Nat} {hs:List Bd} {x:Bd} {Q:D→HD→Prop}
def RV {a c:Nat}:Dh (.int (a:Nat)) (.int (c:Nat)) h=.ok (.bl (decide (a<c))) h:=by
 show Out.ok (D.bl _) h=_
 congr 2
 simp
def NZ {s K:MS} {h:HD} (w:Wp (s a h) (Dj fun d h=>d≠.non∧Q d h)):Wp (s a h) (Mn K (Dj Q)):=by
 refine Wp.mono w fun r e z=>?_;obtain ⟨f,c⟩:=r;cases f with
 |nx=>exact absurd rfl z.1
 |rt d=>exact z.2
 |_=>exact z
def FinQ.rt (q:FinQ h b p hs x Q):FinQ h b p hs x fun d h=>d≠.non∧Q d h:=fun r a c e f g i j k l m n=>⟨fun z=>(nomatch z),q r a c e f g i j k l m n⟩
def rG (E:h[p]?=some (.lst (Bu hs x))) (j:hs.length≤900) (o:wd h b) (ok:Bg x∧∀y∈hs,Bg y) (a:p≠b) (q:FinQ h b p hs x Q):Wp (Nu [.loc b,.loc p] h) Q:=by
 change Wp (Al 11 Q0 [.loc b,.loc p] h) _;refine Eq.mpr An ?_;rw [qV];simp [-Ae,ZW E];refine EZ o (by decide) (by decide) fun w u v e s=>?_;have f:=s _ _ a E;have d:=s.len e.lt;have r:∀h,Dh (.int (w:Nat)) (.int 3) h=.ok (.bl (decide (w<3))) h:=fun h=>RV (c:=3);have k:∀h,Az (.int (w:Nat)) (.int 3) h=.ok (.bl (decide (w=3))) h:=fun h=>NT (b:=3);have t:∀h,Az (.int (w:Nat)) (.int 4) h=.ok (.bl (decide (w=4))) h:=fun h=>NT (b:=4);have l:∀h,Dh (.int (w:Nat)) (.int 11) h=.ok (.bl (decide (w<11))) h:=fun h=>RV (c:=11);refine Eq.mpr Ae ?_;unfold ZT;simp [-Ae,r]
 by_cases m:w<3
 ·rw [if_pos m];exact NZ (rf f e s ok j e.lt d a q.rt)
 ·rw [if_neg m];simp [-Ae];refine Eq.mpr Ae ?_;simp [-Ae,k]
  by_cases g:w=3
  ·rw [if_pos g];exact NZ (rg f e s ok a q.rt)
  ·rw [if_neg g];simp [-Ae];refine Eq.mpr Ae ?_;simp [-Ae,t]
   by_cases n:w=4
   ·rw [if_pos n];exact NZ (ri f e s ok j a d q.rt)
   ·rw [if_neg n];simp [-Ae];refine Eq.mpr Ae ?_;simp [-Ae,l]
    by_cases z:w<11
    ·rw [if_pos z];exact NZ (rj f e s ok a (by omega) z q.rt)
    ·rw [if_neg z];simp [-Ae];refine Eq.mpr Ae ?_;obtain ⟨i,rfl⟩:∃i,w=11+i:=⟨w - 11,by omega⟩
     exact rF (by omega) f j e s ok a d q
end
def ZY:MS:=Am 2 (Ab K1 (Ac (Ab K0 (Ac (Ad 0) (Ac (Ad 1) (Af)))) (Af)))
def ZZ:MS:=Am 3 (AO (Ac (EW "Desk" Ii (Af)) (Ac (EW "Desk" Ii (Af)) (Af))))
noncomputable def Z0:MS:=Am 4 (AO (Ac (AO (Ac (AR (Ac (AR (Ac (mC (.int 0)) (Af))) (Af))) (Af))) (Ac (AO (Ac (AR (Ac (AR (Ac (mC (.int 0)) (Af))) (Af))) (Af))) (Af))))
def Z1:MS:=Am 6 (Ab Bz (Ac (Ad 2) (Ac (mC (.int 2)) (Af))))
def Z2:MS:=C3 (En [7,8,9]) (Ab Nu (Ac (Ad 2) (Ac (Aa Ah (Ad 4) (Ad 6)) (Af))))
def Z3:MS:=AC (Aq (Aa Dh (Ad 5) (mC (.int 2)))) (AM (Am 10 (Ab GV (Ac (Ad 2) (Ac (Aa Ao (mC (.int 1)) (Ab Bz (Ac (Ad 2) (Ac (mC (.int 8)) (Af))))) (Ac (Aa Ao (mC (.int 1)) (Ab Bz (Ac (Ad 2) (Ac (mC (.int 8)) (Af))))) (Af)))))) (AM (Eh 7 8 (Ac (Aa Ao (mC (.str "board ")) (Ab Dr (Ac (Ad 10) (Af)))) (Ac (mC (.str "ok")) (Af)))) (Am 9 (Aa Ao (Aa Ah (Ad 4) (Ad 6)) (AO (Ac (Ad 10) (Af))))))) (AG)
def RW:MS:=AC (Aq (Aa Bt (Ab CL (Ac (Aa Ah (Ad 3) (Ad 6)) (Ac (Ad 7) (Af)))) (Ad 8))) (Ak (mC (.bl false))) (AG)
def RX:MS:=Hu (Ad 4) (Ad 6) (Ad 9)
def N0:MS:=AC (Aq (Aa Bt (Ab CL (Ac (Aa Ah (Ad 3) (mC (.int 0))) (Ac (mC (.str "show")) (Af)))) (Ab Dr (Ac (Aa Ah (Aa Ah (Ad 4) (mC (.int 0))) (DT (mC (.int 1)))) (Af))))) (Ak (mC (.bl false))) (AG)
def N1:MS:=AC (Aq (Aa Bt (Ab CL (Ac (Aa Ah (Ad 3) (mC (.int 1))) (Ac (mC (.str "show")) (Af)))) (Ab Dr (Ac (Aa Ah (Aa Ah (Ad 4) (mC (.int 1))) (DT (mC (.int 1)))) (Af))))) (Ak (mC (.bl false))) (AG)
def Z4:MS:=AU (HY (Aa Ah (Ad 4) (Ad 6)))
def Z5:MS:=AC (Aq (Aa Bt (Ab CL (Ac (Aa Ah (Ad 3) (Ad 6)) (Ac (mC (.str "undo")) (Af)))) (mC (.str "ok")))) (Ak (mC (.bl false))) (AG)
def Z6:MS:=AC (Aq (Aa Bt (Ab CL (Ac (Aa Ah (Ad 3) (Ad 6)) (Ac (mC (.str "show")) (Af)))) (Ab Dr (Ac (Aa Ah (Aa Ah (Ad 4) (Ad 6)) (DT (mC (.int 1)))) (Af))))) (Ak (mC (.bl false))) (AG)
def Z7:MS:=AC (Aq (Aa Bt (Ab CL (Ac (Aa Ah (Ad 3) (Ad 6)) (Ac (mC (.str "undo")) (Af)))) (mC (.str "! row")))) (Ak (mC (.bl false))) (AG)
noncomputable def Z8:LS.MT:=Aq (Aa Gv (Ab (Ai Au) (Ac (Aa Ah (Ad 4) (Ad 6)) (Af))) (mC (.int 1)))
def RY:MS:=AM Z1 (AM Z2 (AM Z3 (AM RW (AM RX (AM N0 N1)))))
def RZ:MS:=AM (HG Z8 (AM Z4 (AM Z5 Z6))) Z7
def R0:MS:=AM ZY (AM ZZ (AM Z0 (AM (BK (BZ (Ac (mC (.int 16)) (Af))) (AB 5) RY) (BK (BZ (Ac (mC (.int 2)) (Af))) (AB 6) RZ))))
def rH:Q3=AM (BK (BZ (Ac (Ab (Bo Kv) (Ac (mC (.int 1)) (Ac (Ab (Bo FR) (Ac (Ab (Ai Au) (Ac (Ad 0) (Af))) (Ac (mC (.int 2)) (Af)))) (Af)))) (Af))) (AB 1) R0) (Ak (mC (.bl true))):=rfl
def rJ {hs:List Bd} {n:Int}:D.int n∉hs.map A9:=fun z=>by obtain ⟨y,_,e⟩:=qaO.mp z;exact nomatch e
def rK {hs:List Bd} {n:Nat}:D.loc n∉hs.map A9:=fun z=>by obtain ⟨y,_,e⟩:=qaO.mp z;exact nomatch e
def N2 {h:List Bd} {x:Bd}:Bu h x=(h++[x]).map A9:=by simp [Bu]
def wK (c:Cell):Prop:=∃h:List Bd,c=.lst (h.map A9)
def wK.int {hs:List Bd} {n:Int} (e:Cell.lst [.int n]=.lst (hs.map A9)):False:=by
 injection e with e
 exact rJ (hs:=hs) (n:=n) (e ▸ qaG.mpr rfl)
def wK.loc {hs:List Bd} {a c:Nat} (e:Cell.lst [.loc a,.loc c]=.lst (hs.map A9)):False:=by
 injection e with e
 exact rK (hs:=hs) (n:=a) (e ▸ AX)
def wj {h:HD} {l a:Nat} {c c':Cell} (e:h[l]?=some c) (b:h[a]?=some c') (n:c=c'→False):l≠a:=fun z=>by subst z;rw [e] at b;exact n (Option.some.inj b)
structure LSt (h:HD) (b dl pl:Nat) (d k e p:Nat→Nat) (hs:Nat→List Bd) (x:Nat→Bd) (n:Nat):Prop where
 bx:wd h b
 dl_:h[dl]?=some (.lst [.loc (d 0),.loc (d 1)])
 pl_:h[pl]?=some (.lst [.loc (p 0),.loc (p 1)])
 A:∀i,i<2→wc h (d i) (k i) (e i) ((hs i).map A9) (A9 (x i))
 P:∀i,i<2→h[p i]?=some (.lst (Bu (hs i) (x i)))
 ok:∀i,i<2→Bg (x i)∧∀y∈hs i,Bg y
 len:∀i,i<2→(hs i).length≤n
 ne:∀i j,i<2→j<2→(i≠j→p i≠p j∧e i≠e j∧k i≠k j)∧p i≠e j
section
variable {h h':HD} {b dl pl n:Nat} {d k e p:Nat→Nat} {hs:Nat→List Bd} {x:Nat→Bd}
def LSt.b_ne (S:LSt h b dl pl d k e p hs x n):dl≠b∧pl≠b∧∀i,i<2→d i≠b∧k i≠b∧e i≠b∧p i≠b:=by
 obtain ⟨z,a⟩:=S.bx;refine ⟨wj S.dl_ a fun q=>?_,wj S.pl_ a fun q=>?_,fun i c=>⟨wj (S.A i c).a1 a fun q=>(nomatch q),wj (S.A i c).a2 a fun q=>(nomatch q),wj (S.A i c).a3 a fun q=>wK.int q.symm,wj (S.P i c) a fun q=>?_⟩⟩
 ·injection q with q;injection q with q;exact nomatch q
 ·injection q with q;injection q with q;exact nomatch q
 ·rw [N2] at q;exact wK.int q.symm
def LSt.smx (S:LSt h b dl pl d k e p hs x n) (s:wk b h h') (bx:wd h' b):LSt h' b dl pl d k e p hs x n:=by obtain ⟨f,g,c⟩:=S.b_ne;exact ⟨bx,s _ _ f S.dl_,s _ _ g S.pl_,fun i a=>⟨s _ _ (c i a).1 (S.A i a).a1,s _ _ (c i a).2.1 (S.A i a).a2,s _ _ (c i a).2.2.1 (S.A i a).a3⟩,fun i a=>s _ _ (c i a).2.2.2 (S.P i a),S.ok,S.len,S.ne⟩
def LSt.sm (S:LSt h b dl pl d k e p hs x n) (s:Sm h h'):LSt h' b dl pl d k e p hs x n:=S.smx (CF s) (S.bx.sm s)
def up {c:Type} (f:Nat→c) (a:Nat) (v:c):Nat→c:=fun i=>if i=a then v else f i
def CN {c:Type} {f:Nat→c} {a:Nat} {v:c}:up f a v a=v:=if_pos rfl
def CO {c:Type} {f:Nat→c} {a i:Nat} {v:c} (n:i≠a):up f a v i=f i:=if_neg n
def LSt.turn {a q:Nat} {m:List Bd} {u:Bd} (S:LSt h b dl pl d k e p hs x n) (t:a<2) (Q:wc h' (d a) (k a) (e a) (m.map A9) (A9 u)) (R:h[q]?=some (.lst (Bu m u))) (G:Sx (k a) (e a) h h') (s:q=p a∨∀i,i<2→q≠p i∧q≠e i) (ok:Bg u∧∀y∈m,Bg y) (Z:m.length≤(hs a).length+1) (T:q=p a→True):
 LSt (h'.set pl (.lst [.loc (up p a q 0),.loc (up p a q 1)])) b dl pl d k e (up p a q) (up hs a m) (up x a u) (n+1):=by
 have H:∀{l:Nat} {F:List D},h[l]?=some (.lst F)→l≠k a:=fun v=>wj v (S.A a t).a2 fun q=>(nomatch q)
 obtain ⟨z,I⟩:=S.bx;obtain ⟨n1,U,n3⟩:=S.b_ne;have J:∀j,j<2→q≠e j:=fun j w=>by
  rcases s with rfl |s
  ·exact (S.ne a j t w).2
  ·exact (s j w).2
 have A:∀{l:Nat} {F:List D},h[l]?=some (.lst F)→l≠e a→h'[l]?=some (.lst F):=fun v ne=>G _ _ (H v) ne v;have r:h[e a]?=some (.lst ((hs a).map A9)):=(S.A a t).a3;have W:h'[b]?=some (.lst [.int z]):=A I (wj I r fun q=>wK.int q);have L:h'[dl]?=some (.lst [.loc (d 0),.loc (d 1)]):=A S.dl_ (wj S.dl_ r fun q=>wK.loc q);have B:h'[pl]?=some (.lst [.loc (p 0),.loc (p 1)]):=A S.pl_ (wj S.pl_ r fun q=>wK.loc q);have C:∀i,i<2→wc h' (d i) (k i) (e i) ((up hs a m i).map A9) (A9 (up x a u i)):=fun i f=>by
  by_cases g:i=a
  ·subst g;rw [CN,CN];exact Q
  ·rw [CO g,CO g];have E:=S.A i f;have M:=(S.ne i a f t).1 g;refine ⟨G _ _ (wj E.a1 (S.A a t).a2 fun q=>by injection q with X q2;exact absurd X (by decide)) (wj E.a1 r fun q=>(nomatch q)) E.a1,G _ _ M.2.2 (wj E.a2 r fun q=>(nomatch q)) E.a2,A E.a3 M.2.1⟩
 have P:∀i,i<2→h'[up p a q i]?=some (.lst (Bu (up hs a m i) (up x a u i))):=fun i f=>by
  by_cases g:i=a
  ·subst g;rw [CN,CN,CN];exact A R (J _ t)
  ·rw [CO g,CO g,CO g];exact A (S.P i f) (S.ne i a f t).2
 have set:∀{l:Nat} {c Y:Cell},h'[l]?=some c→l≠pl→(h'.set pl Y)[l]?=some c:=fun v ne=>by rw [BI (Ne.symm ne)];exact v
 refine ⟨⟨z,set W (Ne.symm U)⟩,set L ?_,by rw [BP (qa1.mp B).1],fun i f=>⟨set (C i f).a1 (wj (C i f).a1 B fun q=>(nomatch q)),set (C i f).a2 (wj (C i f).a2 B fun q=>(nomatch q)),set (C i f).a3 (wj (C i f).a3 B fun q=>wK.loc q.symm)⟩,fun i f=>set (P i f) (wj (P i f) B fun q=>by rw [N2] at q;exact wK.loc q.symm),fun i f=>?_,fun i f=>?_,fun i j f w=>?_⟩
 ·refine wj L B fun q=>?_;injection q with q
  injection q with q
  injection q with q
  exact wj (S.A 0 (by omega)).a1 (S.P 0 (by omega)) (fun q=>(nomatch q)) q
 ·by_cases g:i=a
  ·subst g;rw [CN,CN];exact ok
  ·rw [CO g,CO g];exact S.ok i f
 ·by_cases g:i=a
  ·subst g;rw [CN];have:=S.len i f;omega
  ·rw [CO g];have:=S.len i f;omega
 ·have N:=S.ne i j f w;refine ⟨fun o=>⟨?_,(N.1 o).2.1,(N.1 o).2.2⟩,?_⟩
  ·by_cases g:i=a
   ·subst g;rw [CN,CO (Ne.symm o)];rcases s with rfl |s
    ·exact (N.1 o).1
    ·exact (s j w).1
   ·rw [CO g]
    by_cases O:j=a
    ·subst O;rw [CN];rcases s with rfl |s
     ·exact (N.1 o).1
     ·exact Ne.symm (s i f).1
    ·rw [CO O];exact (N.1 o).1
  ·by_cases g:i=a
   ·subst g;rw [CN];exact J j w
   ·rw [CO g];exact N.2
end
section
variable {h h':HD} {b dl pl n a t kk:Nat} {ns:List Int} {d k e p:Nat→Nat} {hs:Nat→List Bd} {x:Nat→Bd} {c5 c6 c7 c8 c9 c10:Option D}
def LSt.ixd (S:LSt h b dl pl d k e p hs x n) (c:a<2):Ah (.loc dl) (.int (a:Nat)) h=.ok (.loc (d a)) h:=B4 S.dl_ (by
 match a,c with
 |0,_=>rfl
 |1,_=>rfl)
def LSt.ixp (S:LSt h b dl pl d k e p hs x n) (c:a<2):Ah (.loc pl) (.int (a:Nat)) h=.ok (.loc (p a)) h:=B4 S.pl_ (by
 match a,c with
 |0,_=>rfl
 |1,_=>rfl)
def J3:Bt (.str s) (.str s) h=.ok (.bl false) h:=by
 show Out.ok (D.bl (!(s==s))) h=_
 rw [beq_self_eq_true];rfl
def LSt.show_ (S:LSt h b dl pl d k e p hs x n) (c:a<2):Pu (CL [.loc (d a),.str "show"] h) h (.str (tx (Cy (x a).1 (x a).2.1 (x a).2.2))):=
 Pu.answer (S.A a c) (ZJ (j:=0) (by decide) (S.ok a c).1.1 (S.ok a c).1.2 (S.A a c))
def LSt.last (S:LSt h b dl pl d k e p hs x n) (c:a<2):Ah (.loc (p a)) (.int (-1)) h=.ok (A9 (x a)) h:=ZW (S.P a c)
def LSt.text (S:LSt h b dl pl d k e p hs x n) (c:a<2):Pu (Dr [A9 (x a)] h) h (.str (tx (Cy (x a).1 (x a).2.1 (x a).2.2))):=Lf (S.ok a c).1.1 (S.ok a c).1.2
noncomputable def CY (ns:List Int) (kk b dl pl:Nat) (c5 c6 c7 c8 c9 c10:Option D):Ag:=[some (.scr ns),some (.int (kk:Nat)),some (.loc b),some (.loc dl),some (.loc pl),c5,c6,c7,c8,c9,c10]
def rL {Q:Fl×Ag→HD→Prop} (S:LSt h b dl pl d k e p hs x n) (q:∀h',LSt h' b dl pl d k e p hs x n→Q (.nx,CY ns kk b dl pl c5 c6 c7 c8 c9 c10) h'):Wp (N0 (CY ns kk b dl pl c5 c6 c7 c8 c9 c10) h) Q:=by unfold N0 CY;have i:∀{h},LSt h b dl pl d k e p hs x n→Ah (.loc dl) (.int 0) h=.ok (.loc (d 0)) h:=fun S=>S.ixd (a:=0) (by omega);have j:∀{h},LSt h b dl pl d k e p hs x n→Ah (.loc pl) (.int 0) h=.ok (.loc (p 0)) h:=fun S=>S.ixp (a:=0) (by omega);simp [i S];refine (S.show_ (a:=0) (by omega)).wp fun l c=>?_;have s:=S.sm c;simp [j s,s.last (a:=0) (by omega)];refine (s.text (a:=0) (by omega)).wp fun f g=>?_;rw [J3];simp;exact q f (s.sm g)
def rM {Q:Fl×Ag→HD→Prop} (S:LSt h b dl pl d k e p hs x n) (q:∀h',LSt h' b dl pl d k e p hs x n→Q (.nx,CY ns kk b dl pl c5 c6 c7 c8 c9 c10) h'):Wp (N1 (CY ns kk b dl pl c5 c6 c7 c8 c9 c10) h) Q:=by unfold N1 CY;have i:∀{h},LSt h b dl pl d k e p hs x n→Ah (.loc dl) (.int 1) h=.ok (.loc (d 1)) h:=fun S=>S.ixd (a:=1) (by omega);have j:∀{h},LSt h b dl pl d k e p hs x n→Ah (.loc pl) (.int 1) h=.ok (.loc (p 1)) h:=fun S=>S.ixp (a:=1) (by omega);simp [i S];refine (S.show_ (a:=1) (by omega)).wp fun l c=>?_;have s:=S.sm c;simp [j s,s.last (a:=1) (by omega)];refine (s.text (a:=1) (by omega)).wp fun f g=>?_;rw [J3];simp;exact q f (s.sm g)
def Z9 {Q:Fl×Ag→HD→Prop} {j:List Bd} {u:Bd} {c:Nat} (S:LSt h b dl pl d k e p hs x n) (g:a<2) (m:D7 (hs a) (x a) r f j u) (v:h[c]?=some (.lst (Bu j u))) (w:c=p a∨∀i,i<2→c≠p i∧c≠e i)
 (q:∀y o z h',LSt h' b dl pl d k e y o z (n+1)→Q (.nx,CY ns kk b dl pl c5 (some (.int (a:Nat))) (some (.str r)) (some (.str f)) (some (.loc c)) c10) h'):Wp ((AM RW (AM RX (AM N0 N1))) (CY ns kk b dl pl c5 (some (.int (a:Nat))) (some (.str r)) (some (.str f)) (some (.loc c)) c10) h) Q:=by
 rw [Ba];unfold RW CY;simp [-Ae,S.ixd g];refine m.say h (d a) (k a) (e a) _ (S.A a g) fun A B s=>?_;simp [-Ae,J3];refine Eq.mpr Ae ?_;rw [Ba];unfold RX;have C:=S.turn g B v s w m.ok m.len (fun _=>trivial);have l:A[pl]?=some (.lst [.loc (p 0),.loc (p 1)]):=s _ _ (wj S.pl_ (S.A a g).a2 fun q=>(nomatch q)) (wj S.pl_ (S.A a g).a3 fun q=>wK.loc q) S.pl_;simp [-Ae];rw [Mo l (by simpa using g)];have E:([D.loc (p 0),D.loc (p 1)]:List D).set a (.loc c)=[.loc (up p a c 0),.loc (up p a c 1)]:=by
  match a,g with
  |0,_=>rfl
  |1,_=>rfl
 rw [E];simp [-Ae];refine Eq.mpr Ae ?_;rw [Ba];refine rL (ns:=ns) (kk:=kk) C fun H F=>?_;refine Eq.mpr Ae ?_;exact rM (ns:=ns) (kk:=kk) F fun I G=>q _ _ _ _ G
def fresh {c:HD} {q:Nat} (S:LSt c b dl pl d k e p hs x n) (g:c.length≤q):∀i,i<2→q≠p i∧q≠e i:=fun i f=>by have:=(qa1.mp (S.P i f)).1;have:=(qa1.mp (S.A i f).a3).1;omega
def rN {Q:Fl×Ag→HD→Prop} (S:LSt h b dl pl d k e p hs x n) (hn:n≤800) (q:∀c6 c7 c8 c9 c10 o g r h',LSt h' b dl pl d k e o g r (n+1)→Q (.nx,CY ns kk b dl pl (some (.int (t:Nat))) c6 c7 c8 c9 c10) h'):Wp (RY (CY ns kk b dl pl (some (.int (t:Nat))) c6 c7 c8 c9 c10) h) Q:=by
 unfold RY;rw [Ba];unfold Z1 CY;refine Eq.mpr Cj ?_
 show Wp (Bz [.loc b,.int 2] h) _
 refine EZ S.bx (by decide) (by decide) fun a h1 la H I=>?_;have f:a<2:=by omega
 have s:=S.smx I H;refine Eq.mpr Ae ?_;rw [Ba];unfold Z2;simp [-Ae,s.ixp f];have hl:=s.len a f;refine rG (s.P a f) (by omega) s.bx (s.ok a f) ((s.b_ne.2.2 a f).2.2.2) fun J L M x' u h2 N v O P R T=>?_;have w:=s.smx O v;have C:u=p a∨∀i,i<2→u≠p i∧u≠e i:=T.imp id fun z=>fresh s z;simp [-Ae];refine Eq.mpr Ae ?_;rw [Ba];unfold Z3;have E:∀h,Dh (.int (t:Nat)) (.int 2) h=.ok (.bl (decide (t<2))) h:=fun h=>RV (c:=2);simp [-Ae,E]
 by_cases z:t<2
 ·rw [if_pos z];simp [-Ae];refine EZ w.bx (by decide) (by decide) fun A U lA W X=>?_;have j:=w.smx X W;simp [-Ae];refine EZ j.bx (by decide) (by decide) fun B h4 lB Y Z=>?_;have G:=j.smx Z Y;simp [-Ae];have eA:(1:Int)+(A:Nat)=((A+1:Nat):Int):=by omega
  have eB:(1:Int)+(B:Nat)=((B+1:Nat):Int):=by omega
  rw [eA,eB];refine Q7 G.bx (by omega) (by omega) fun f' h5 x5 s5=>?_;have S5:=G.smx s5 x5;refine Eq.mpr Ae ?_;simp [-Ae];refine (Lf (by omega) (by omega)).wp fun h6 s6=>?_;have m:=S5.sm s6;rw [ZX (JY (by omega) (by omega)),AE];refine Eq.mpr Ae ?_;simp [-Ae,m.ixp f];refine RR (y:=(A+1,B+1,f')) (m.P a f) (by omega) fun l h7 s7 F e7=>?_;have S7:=m.sm s7;refine Eq.mpr Ae ?_;exact Z9 (ns:=ns) (kk:=kk) S7 f (ZU (by omega) (by omega) (S.ok a f) (by omega)) e7 (.inr (fresh m F)) fun o g r h8 S8=>q _ _ _ _ _ _ _ _ _ S8
 ·rw [if_neg z];simp [-Ae];refine Eq.mpr Ae ?_;exact Z9 (ns:=ns) (kk:=kk) w f N P C fun o g r U j=>q _ _ _ _ _ _ _ _ _ j
def LSt.popped (S:LSt h b dl pl d k e p hs x n) (i:a<2) {c:Cell} {l:Nat} {c':Cell} (f:h[l]?=some c) (g:l≠p a):(h.set (p a) c')[l]?=some c:=by rw [BI (Ne.symm g)];exact f
def LSt.pne (S:LSt h b dl pl d k e p hs x n) (c:a<2):b≠p a∧dl≠p a∧pl≠p a∧∀i,i<2→d i≠p a∧k i≠p a∧e i≠p a:=by have P:=S.P a c;rw [N2] at P;exact ⟨Ne.symm (S.b_ne.2.2 a c).2.2.2,wj S.dl_ P fun q=>wK.loc q,wj S.pl_ P fun q=>wK.loc q,fun i f=>⟨wj (S.A i f).a1 P fun q=>(nomatch q),wj (S.A i f).a2 P fun q=>(nomatch q),Ne.symm (S.ne a i c f).2⟩⟩
def LSt.deskp (S:LSt h b dl pl d k e p hs x n) (f:a<2) {c':Cell} {i:Nat} (c:i<2):wc (h.set (p a) c') (d i) (k i) (e i) ((hs i).map A9) (A9 (x i)):=by obtain ⟨_,_,_,g⟩:=S.pne f;exact ⟨S.popped f (S.A i c).a1 (g i c).1,S.popped f (S.A i c).a2 (g i c).2.1,S.popped f (S.A i c).a3 (g i c).2.2⟩
def LSt.unw {f:List Bd} {y:Bd} (S:LSt h b dl pl d k e p hs x n) (j:a<2) (v:hs a=f++[y]) (J:wc r (d a) (k a) (e a) (f.map A9) (A9 y)) (u:Sx (k a) (e a) (h.set (p a) (.lst (Bu f y))) r):LSt r b dl pl d k e p (up hs a f) (up x a y) n:=by
 obtain ⟨B,C,E,N⟩:=S.pne j;obtain ⟨z,F⟩:=S.bx;have A:=S.deskp j (c':=.lst (Bu f y)) j;have s:∀{l:Nat} {G:List D},(h.set (p a) (.lst (Bu f y)))[l]?=some (.lst G)→l≠e a→r[l]?=some (.lst G):=fun H ne=>u _ _ (wj H A.a2 fun q=>(nomatch q)) ne H;have m:=A.a3;refine ⟨⟨z,s (S.popped j F B) (wj (S.popped j F B) m fun q=>wK.int q)⟩,s (S.popped j S.dl_ C) (wj (S.popped j S.dl_ C) m fun q=>wK.loc q),s (S.popped j S.pl_ E) (wj (S.popped j S.pl_ E) m fun q=>wK.loc q),fun i g=>?_,fun i g=>?_,fun i g=>?_,fun i g=>?_,S.ne⟩
 ·by_cases c:i=a
  ·subst c;rw [CN,CN];exact J
  ·rw [CO c,CO c];have o:=S.deskp j (c':=.lst (Bu f y)) g;have I:=(S.ne i a g j).1 c;refine ⟨u _ _ (wj o.a1 A.a2 fun q=>by injection q with L O;exact absurd L (by decide)) (wj o.a1 m fun q=>(nomatch q)) o.a1,u _ _ I.2.2 (wj o.a2 m fun q=>(nomatch q)) o.a2,s o.a3 I.2.1⟩
 ·by_cases c:i=a
  ·subst c;rw [CN,CN];exact s (BP (qa1.mp (S.P i g)).1) (S.ne i i g g).2
  ·rw [CO c,CO c];exact s (S.popped j (S.P i g) ((S.ne i a g j).1 c).1) (S.ne i a g j).2
 ·by_cases c:i=a
  ·subst c;rw [CN,CN];have:=(S.ok i g).2;rw [v] at this;exact ⟨this y (by simp),fun w M=>this w (by simp [M])⟩
  ·rw [CO c,CO c];exact S.ok i g
 ·by_cases c:i=a
  ·subst c;rw [CN];have:=S.len i g;rw [v,DE,Ob] at this;omega
  ·rw [CO c];exact S.len i g
def rO {a c:Nat}:Gv (.int (a:Nat)) (.int (c:Nat)) h=.ok (.bl (decide (c<a))) h:=by
 show Out.ok (D.bl _) h=_
 congr 2
 simp
inductive aa (ns:List Int) (kk b dl pl n a:Nat) (d k e p:Nat→Nat) (c5 c7 c8 c9 c10:Option D) (m:Nat) (ρ:Ag) (h:HD):Prop where
 |mk (hs:Nat→List Bd) (x:Nat→Bd) (f0:(hs a).length=m) (f1:ρ=CY ns kk b dl pl c5 (some (.int (a:Nat))) c7 c8 c9 c10) (f2:LSt h b dl pl d k e p hs x n):aa ns kk b dl pl n a d k e p c5 c7 c8 c9 c10 m ρ h
def rP {Q:Fl×Ag→HD→Prop} (S:LSt h b dl pl d k e p hs x n) (f:a<2) (N:n≤900) (q:∀o B h',LSt h' b dl pl d k e p o B n→Q (.nx,CY ns kk b dl pl c5 (some (.int (a:Nat))) c7 c8 c9 c10) h'):Wp (RZ (CY ns kk b dl pl c5 (some (.int (a:Nat))) c7 c8 c9 c10) h) Q:=by
 unfold RZ;rw [Ba];have O:=S.len a f;refine V0 (aa ns kk b dl pl n a d k e p c5 c7 c8 c9 c10) (hs a).length (by omega) ⟨hs,x,rfl,rfl,S⟩ ?_;rintro m R j ⟨g,C,em,rfl,s⟩;have E:Au (.loc (p a)) j=.ok (.int ((g a).length+1:Nat)) j:=by rw [GJ (s.P a f)];simp [Bu]
 have F:∀h,Gv (.int ((g a).length+1:Nat)) (.int 1) h=.ok (.bl (decide (1<(g a).length+1))) h:=fun h=>rO (c:=1);unfold Z8 CY;simp only [Vz,Fq,CJ,BM,B2,Jj]
 show Wp (Out.ok (D.loc pl) j) _
 rw [AE]
 show Wp (Out.ok (D.int (a:Nat)) j) _
 rw [AE,s.ixp f,AE]
 show Wp (Au (.loc (p a)) j) _
 rw [E,AE,F,AE]
 show Wp (Out.ok (decide (1<(g a).length+1)) j) _
 rw [AE];rcases List.eq_nil_or_concat (g a) with z |⟨i,y,z⟩
 ·have r:decide (1<(g a).length+1)=false:=by rw [z];rfl
  rw [r,if_neg (by decide)];refine Eq.mpr Ae ?_;unfold Z7;simp [s.ixd f];have A:=s.A a f;rw [z] at A;refine (RL A (YN A) (by decide +kernel) fun h=>ZS).wp fun w G=>?_;rw [J3];simp;exact q _ _ w (s.sm G)
 ·rw [List.concat_eq_append] at z;have r:decide (1<(g a).length+1)=true:=by rw [z];simp
  rw [r,if_pos rfl,Ba];unfold Z4;simp [-Ae,s.ixp f];have P:=s.P a f;unfold Bu at P;rw [Ej P,AE,YK P];simp [-Ae];refine Eq.mpr Ae ?_;rw [Ba];have H:(g a).map A9=Bu i y:=by rw [z,N2]
  rw [H];have I:Ah (.loc dl) (.int (a:Nat)) (j.set (p a) (.lst (Bu i y)))=.ok (.loc (d a)) (j.set (p a) (.lst (Bu i y))):=B4 (s.popped f s.dl_ (s.pne f).2.1) (by
   match a,f with
   |0,_=>rfl
   |1,_=>rfl)
  have A:=s.deskp f (c':=.lst (Bu i y)) f;have ok:=s.ok a f;rw [z] at A ok;unfold Z5;simp [-Ae,I];refine (ZV ok).say _ (d a) (k a) (e a) _ A fun w J u=>?_;have v:=s.unw f z J u;simp [-Ae,J3];refine Eq.mpr Ae ?_;unfold Z6;simp [v.ixd f];refine (v.show_ f).wp fun T L=>?_;have l:=v.sm L;simp [l.ixp f,l.last f];refine (l.text f).wp fun U M=>?_;rw [J3];simp [B3];refine ⟨i.length,?_,up g a i,up C a y,by rw [CN],rfl,l.sm M⟩;rw [←em,z];simp
inductive ae (ns:List Int) (kk b dl pl:Nat) (d k e:Nat→Nat) (xs:List Nat) (ρ:Ag) (h:HD):Prop where
 |mk (j:Nat) (p:Nat→Nat) (hs:Nat→List Bd) (x:Nat→Bd) (c5 c6 c7 c8 c9 c10:Option D) (f0:xs=(List.range 16).drop j) (f1:j≤16) (f2:ρ=CY ns kk b dl pl c5 c6 c7 c8 c9 c10) (f3:LSt h b dl pl d k e p hs x (20+j)):ae ns kk b dl pl d k e xs ρ h
inductive af (ns:List Int) (kk b dl pl:Nat) (d k e:Nat→Nat) (xs:List Nat) (ρ:Ag) (h:HD):Prop where
 |mk (j:Nat) (p:Nat→Nat) (hs:Nat→List Bd) (x:Nat→Bd) (c5 c6 c7 c8 c9 c10:Option D) (f0:xs=(List.range 2).drop j) (f1:j≤2) (f2:ρ=CY ns kk b dl pl c5 c6 c7 c8 c9 c10) (f3:LSt h b dl pl d k e p hs x 36):af ns kk b dl pl d k e xs ρ h
def pr {c:Type} (u v:c):Nat→c:=fun i=>if i=0 then u else v
def rQ {P R T U W X Y Z o:Option D} {Q:Fl×Ag→HD→Prop} (hb:∀i∈ns,Builtin.Int.intBits i≤2^20) (hk:kk≤1000) (q:∀P R T U W X Y Z o h',Q (.nx,[some (.scr ns),some (.int (kk:Nat)),P,R,T,U,W,X,Y,Z,o]) h'):Wp (R0 [some (.scr ns),some (.int (kk:Nat)),P,R,T,U,W,X,Y,Z,o] h) Q:=by
 unfold R0;rw [Ba];unfold ZY;refine Eq.mpr Cj ?_;rw [CJ,BM]
 show Wp (K0 [.scr ns,.int (kk:Nat)] h) _
 refine mR hb hk fun l h1 x1 l1 s1=>?_;rw [B2];refine Ys x1 fun b h2 x2 xb nb lb s2=>?_;refine Eq.mpr Ae ?_;rw [Ba];unfold ZZ;refine Eq.mpr Cj ?_;simp only [Kw,BM,B2];refine YL fun f B r h3 M ld0 lk0 le0 s3=>?_;refine YL fun m C s h4 A1 ld1 lk1 le1 s4=>?_;refine A4 (by simp) fun dl h5 s5 e5 el5 _=>?_;refine Eq.mpr Ae ?_;rw [Ba];unfold Z0;refine Eq.mpr Cj ?_;simp only [Kw,BM,B2,hZ,Jj];have z1:1≤sizeLine:=by unfold sizeLine;omega
 simp only [Ob,z1,if_true,AE];refine A4 (by simp) fun E h6 s6 e6 el6 _=>?_;refine A4 (by simp) fun F h7 s7 e7 el7 _=>?_;refine A4 (by simp) fun pl N s8 e8 el8 _=>?_;have n2:=s2.len x2.lt;have n3:=s3.len;have n4:=s4.len;have n5:=s5.len;have n6:=s6.len;have n7:=s7.len;have g:∀{α:Type} (u v:α) (i:Nat),i<2→(i=0∧pr u v i=u)∨(i=1∧pr u v i=v):=fun u v i c=>by
  match i,c with
  |0,_=>exact .inl ⟨rfl,rfl⟩
  |1,_=>exact .inr ⟨rfl,rfl⟩
 have lp0:=DM e6;have lA0:=DM M.a1;have lA0k:=DM M.a2;have lA0e:=DM M.a3;have lA1e:=DM A1.a3;have S:LSt N b dl pl (pr f m) (pr B C) (pr r s) (pr E F) (fun _=>[]) (fun _=>(1,1,fun _ _=>false)) 20:=by
  have w:=(s6.trans s7).trans s8;have G:=(s4.trans s5).trans w;refine ⟨xb.sm (s3.trans G),w _ _ e5,e8,fun i c=>?_,fun i c=>?_,fun i c=>⟨⟨by decide,by decide⟩,fun y hy=>by cases hy⟩,fun i c=>by simp,fun i j c z=>?_⟩
  ·rcases g f m i c with ⟨rfl,_⟩ |⟨rfl,_⟩
   ·exact M.sm G
   ·exact A1.sm (s5.trans w)
  ·rcases g f m i c with ⟨rfl,_⟩ |⟨rfl,_⟩
   ·exact (s7.trans s8) _ _ e6
   ·exact s8 _ _ e7
  ·rcases g f m i c with ⟨rfl,_⟩ |⟨rfl,_⟩
   ·rcases g f m j z with ⟨rfl,_⟩ |⟨rfl,_⟩
    ·exact ⟨fun A=>absurd rfl A,(show E≠r by omega)⟩
    ·exact ⟨fun _=>⟨(show E≠F by omega),(show r≠s by omega),(show B≠C by omega)⟩,(show E≠s by omega)⟩
   ·rcases g f m j z with ⟨rfl,_⟩ |⟨rfl,_⟩
    ·exact ⟨fun _=>⟨(show F≠E by omega),(show s≠r by omega),(show C≠B by omega)⟩,(show F≠r by omega)⟩
    ·exact ⟨fun A=>absurd rfl A,(show F≠s by omega)⟩
 refine Eq.mpr Ae ?_;rw [Ba];refine CC (src:=[]) (xs:=List.range 16) (fun k=>.int ((k:Nat):Int)) (ae ns kk b dl pl (pr f m) (pr B C) (pr r s)) ?_ (fun ys H h' _=>Cr) ?_ ?_
 ·have r16:Fj [.int 16] N=.ok ((List.range 16).map fun k=>D.int ((k:Nat):Int),[]) N:=Dl (n:=16) (by decide)
  show Wp (Fj [.int 16] N) _
  rw [r16,AE];exact ⟨rfl,0,_,_,_,_,_,_,_,_,_,by simp,by omega,rfl,S⟩
 ·rintro t xs H O ⟨j,p,hs,x,c5,c6,c7,c8,c9,c10,ex,z,rfl,S9⟩;obtain ⟨rfl,I,rfl⟩:=D2 ex.symm;refine ⟨_,rfl,?_⟩;exact rN (ns:=ns) (kk:=kk) S9 (by omega) fun c6 c7 c8 c9 c10 p2 hs2 x2 h' S'=>⟨t+1,_,_,_,_,_,_,_,_,_,rfl,by omega,rfl,S'⟩
 ·rintro H O ⟨j,p,hs,x,c5,c6,c7,c8,c9,c10,ex,z,rfl,S9⟩;have:=EA z ex.symm;subst this;refine Eq.mpr Ae ?_;refine CC (src:=[]) (xs:=List.range 2) (fun k=>.int ((k:Nat):Int)) (af ns kk b dl pl (pr f m) (pr B C) (pr r s)) ?_ (fun ys H h' _=>Cr) ?_ ?_
  ·have r2:Fj [.int 2] O=.ok ((List.range 2).map fun k=>D.int ((k:Nat):Int),[]) O:=Dl (n:=2) (by decide)
   show Wp (Fj [.int 2] O) _
   rw [r2,AE];exact ⟨rfl,0,_,_,_,_,_,_,_,_,_,by simp,by omega,rfl,S9⟩
  ·rintro t xs H J ⟨j,p,hs,x,c5,c6,c7,c8,c9,c10,ex,z,rfl,L⟩;obtain ⟨rfl,I,rfl⟩:=D2 ex.symm;refine ⟨_,rfl,?_⟩;exact rP (ns:=ns) (kk:=kk) L I (by omega) fun hs2 x2 h' S'=>⟨t+1,_,_,_,_,_,_,_,_,_,rfl,by omega,rfl,S'⟩
  ·rintro H J ⟨j,p,hs,x,c5,c6,c7,c8,c9,c10,ex,z,rfl,L⟩;exact q _ _ _ _ _ _ _ _ _ J
end
inductive IL (ns:List Int) (xs:List Nat) (ρ:Ag) (h:HD):Prop where
 |mk (a1 a2 a3 a4 a5 a6 a7 a8 a9 a10:Option D) (f0:ρ=[some (.scr ns),a1,a2,a3,a4,a5,a6,a7,a8,a9,a10]) (f1:∀k∈xs,k≤1000):IL ns xs ρ h
theorem law_true (ns:List Int) (hl:ns.length≤63) (hb:∀i∈ns,Builtin.Int.intBits i≤2^20):∃h',F_law [.scr ns] []=.ok (.bl true) h':=by
 have main:Wp (F_law [.scr ns] []) fun d _=>d=.bl true:=by
  change Wp (Al 11 (Q3) [.scr ns] []) _;rw [rH,An,Ba];obtain ⟨n,en,hn⟩:∃n:Nat,(if (if (2:Int)<(ns.length:Int) then (2:Int) else (ns.length:Int))>1 then (if (2:Int)<(ns.length:Int) then (2:Int) else (ns.length:Int)) else 1)=(n:Int)∧n≤99:=by
   have h0:0≤(if (if (2:Int)<(ns.length:Int) then (2:Int) else (ns.length:Int))>1 then (if (2:Int)<(ns.length:Int) then (2:Int) else (ns.length:Int)) else 1)∧(if (if (2:Int)<(ns.length:Int) then (2:Int) else (ns.length:Int))>1 then (if (2:Int)<(ns.length:Int) then (2:Int) else (ns.length:Int)) else 1)≤99:=by constructor<;>(split<;>split<;>omega)
   generalize (if (if (2:Int)<(ns.length:Int) then (2:Int) else (ns.length:Int))>1 then (if (2:Int)<(ns.length:Int) then (2:Int) else (ns.length:Int)) else 1)=E at h0;exact ⟨E.toNat,by omega,by omega⟩
  refine CC (src:=[]) (xs:=List.range n) (fun i=>.int ((i:Nat):Int)) (IL ns) ?_ (fun ys ρ h' _=>Cr) ?_ ?_
  ·simp;rw [en,Dl (by omega)];exact ⟨rfl,_,_,_,_,_,_,_,_,_,_,rfl,fun k hk=>by have:=qb3.mp hk;omega⟩
  ·rintro x xs ρ h' ⟨d1,d2,d3,d4,d5,d6,d7,d8,d9,d10,rfl,hx⟩;refine ⟨_,rfl,?_⟩;refine rQ hb (hx x AX) fun _ _ _ _ _ _ _ _ _ h2=>?_;simp [B3];exact ⟨_,_,_,_,_,_,_,_,_,_,rfl,fun k hk=>hx k (A2 _ hk)⟩
  ·rintro ρ h' ⟨d1,d2,d3,d4,d5,d6,d7,d8,d9,d10,rfl,hx⟩;simp
 obtain ⟨a,h',e,rfl⟩:=Wp.ex main;exact ⟨h',e⟩
end LK
set_option maxHeartbeats 0
namespace LK
open PySem PySem.Spec PyProof.Rows L2 LS
section
set_option hygiene false
local macro_rules |`(tactic|symm)=>`(tactic|first |exact nd |exact of_decide_eq_true (by kernel_rfl))
local macro_rules |`(tactic|right)=>`(tactic|first |exact Or.inl rfl |exact Or.inr rfl)
local macro_rules |`(tactic|exfalso)=>`(tactic|exact ⟨rfl,by decide +kernel,by kernel_rfl,by decide +kernel,rfl,by kernel_rfl⟩)
local macro_rules |`(tactic|constructor)=>`(tactic|first |exact iG |exact iO |exact jQ)
local macro_rules |`(tactic|infer_instance)=>`(tactic|first |((with_reducible show PE _ (.Name _ _) _);first |exact lx |exact fw rfl (by show mg _=_;with_reducible assumption) |exact lF rfl (by show mg _=_;with_reducible assumption) |exact l0 rfl (by show LS.brdIn K _ _=true;with_reducible assumption) |exact g5 rfl (B _ (by decide +kernel)) (by decide +kernel) |exact j7 et (by decide +kernel)) |((with_reducible show PE _ (.Constant _ _ _) _);first |exact fm |exact fq |exact ft |exact fu) |((with_reducible show PE _ (.Tuple _ _ _) _);((with_reducible refine fU ?_);ac_rfl)) |((with_reducible show PE _ (.List _ _) _);((with_reducible refine fV ?_);ac_rfl)) |((with_reducible show PE _ (.BinOp _ .Add _ _) _);(refine Hl fZ ?_ ?_<;>ac_rfl)) |((with_reducible show PE _ (.BinOp _ .Sub _ _) _);(refine Hl f7 ?_ ?_<;>ac_rfl)) |((with_reducible show PE _ (.BinOp _ .Mod _ _) _);(refine Hl gc ?_ ?_<;>ac_rfl)) |((with_reducible show PE _ (.BinOp _ .Mult _ _) _);(refine Hl j6 ?_ ?_<;>ac_rfl)) |((with_reducible show PE _ (.BinOp _ .FloorDiv _ _) _);(refine Hl gw ?_ ?_<;>ac_rfl)) |((with_reducible show PE _ (.BinOp _ .LShift _ _) _);(refine Hl gf ?_ ?_<;>ac_rfl)) |((with_reducible show PE _ (.BinOp _ .BitXor _ _) _);(refine Hl kZ ?_ ?_<;>ac_rfl)) |((with_reducible show PE _ (.Subscript _ (.Slice _ _ _ _) _) _);first |(refine mG ?_ ?_ ?_<;>ac_rfl) |(refine kn ?_ ?_ ?_<;>ac_rfl)) |((with_reducible show PE _ (.Subscript _ _ _) _);first |(refine gp ?_ ?_ fun _ _=>rfl<;>ac_rfl) |(refine k8 ?_ ?_ fun _ _=>rfl<;>ac_rfl)) |((with_reducible show PE _ (.Call (.Attribute (.Dict _ _ _) "get" _) _ _ _) _);(refine mJ ?_ ?_ ?_<;>ac_rfl)) |((with_reducible show PE _ (.Call (.Attribute _ "append" _) _ _ _) _);(refine hB ?_ ?_<;>ac_rfl)) |((with_reducible show PE _ (.Call (.Attribute _ "pop" _) _ _ _) _);(refine lj ?_;ac_rfl)) |((with_reducible show PE _ (.Call (.Attribute _ "count" _) _ _ _) _);(refine Ju PySem.F.plainAttrs_list PySem.F.slot_list_count PySem.F.type_list_count PL jN jL ?_ ?_<;>ac_rfl)) |((with_reducible show PE _ (.Call (.Attribute _ "index" _) _ _ _) _);(refine Ju PySem.F.plainAttrs_list PySem.F.slot_list_index PySem.F.type_list_index PL jM jO ?_ ?_<;>ac_rfl)) |((with_reducible show PE _ (.Call (.Attribute _ "find" _) _ _ _) _);(refine Ju PySem.F.plainAttrs_str PySem.F.slot_str_find PySem.F.type_str_find MM lP lI ?_ ?_<;>ac_rfl)) |((with_reducible show PE _ (.Call (.Attribute _ "join" _) _ _ _) _);(refine Ju PySem.F.plainAttrs_str PySem.F.slot_str_join PySem.F.type_str_join MM k9 lg ?_ ?_<;>ac_rfl)) |((with_reducible show PE _ (.Call (.Attribute _ "partition" _) _ _ _) _);(refine Ju PySem.F.plainAttrs_str PySem.F.slot_str_partition PySem.F.type_str_partition MM lN lO ?_ ?_<;>ac_rfl)) |((with_reducible show PE _ (.Call (.Attribute _ "split" _) _ _ _) _);(refine Ju PySem.F.plainAttrs_str PySem.F.slot_str_split PySem.F.type_str_split MM lK lM ?_ ?_<;>ac_rfl)) |((with_reducible show PE _ (.Call (.Attribute _ _ _) _ _ _) _);first |(refine me (by show GP l.prog w K mg base _ _ _ _;with_reducible assumption) hr (by constructor) ?_ ?_<;>ac_rfl) |(refine mf (by show GP l.prog w K mg base _ _ _ _;with_reducible assumption) hr (by constructor) ?_;ac_rfl)) |((with_reducible show PE _ (.Attribute _ _ _) _);(refine ma (by show KR K _ _;with_reducible assumption) ?_;ac_rfl)) |((with_reducible show PE _ (.Call (.Name _ _) _ _ _) _);first |(refine mh (by show HZ l.prog w K mg base _ _ _;with_reducible assumption) hr (by constructor) rfl ?_;ac_rfl) |exact mi (by show HZ l.prog w K mg base _ _ _;with_reducible assumption) hr (by constructor) rfl |(refine iP (by show CaE l.prog w K mg base _ _ _;with_reducible assumption) hr (by constructor) ?_;ac_rfl) |exact k7 (by show CaE l.prog w K mg base _ _ _;with_reducible assumption) hr (by constructor) |(refine fX (by first |exact g9 rfl |exact jH et |exact gx rfl |exact iV rfl |exact gy rfl |exact g7 rfl |exact gu |exact gq |exact mD) rfl (B _ (by decide +kernel)) (by decide +kernel) ?_;ac_rfl) |(refine fY (by first |exact gz |exact mF |exact kj |exact kX |exact gA) rfl (B _ (by decide +kernel)) (by decide +kernel) ?_;ac_rfl)) |((with_reducible show PE _ (.ListComp _ _ _ _) _);first |(refine P8 rfl (by exfalso) ?_ (Vn rfl) fun C D cells fp s₀ H₀ pins=>⟨?_,?_,?_⟩<;>ac_rfl) |(refine P8 rfl (by exfalso) ?_ (Vo rfl rfl) fun C D cells fp s₀ H₀ pins=>⟨?_,?_,?_⟩<;>ac_rfl) |(refine P8 rfl (by exfalso) ?_ (Wq rfl rfl rfl) fun C D cells fp s₀ H₀ pins=>⟨?_,?_,?_⟩<;>ac_rfl) |(refine kL (Nc:=["a","b","c","e","high","wide"]) (cs:=[none,none,none,none,some 1,some 2]) (is:=[0]) (js:=[1,2,3]) rfl (CSc.ok (by exfalso)) ?_ (fun g e=>by cases e<;>rfl) (by decide) (MH (i:=0) (js:=[1,2,3]) (by decide)) (fun C D cells fp s₀ H₀ pins ao=>⟨Cb (i:=0) (show (["a","b","c","e","high","wide"]:List Str).Nodup from by decide +kernel) rfl (by right) (by first|exact .inl rfl|exact .inr rfl),?_,P3 (is:=[1]) (js:=[2,3]) rfl rfl rfl (fun g e=>by cases e<;>rfl) ?_ (Cb (i:=1) (show (["a","b","c","e","high","wide"]:List Str).Nodup from by decide +kernel) rfl (by right) (by first|exact .inl rfl|exact .inr rfl)) (MH (i:=1) (js:=[2,3]) (by decide)) ?_ (P3 (is:=[2]) (js:=[3]) rfl rfl rfl (fun g e=>by cases e<;>rfl) ?_ (Cb (i:=2) (show (["a","b","c","e","high","wide"]:List Str).Nodup from by decide +kernel) rfl (by right) (by first|exact .inl rfl|exact .inr rfl)) (MH (i:=2) (js:=[3]) (by decide)) ?_ (P3 (is:=[3]) (js:=[]) rfl rfl rfl (fun g e=>by cases e<;>rfl) ?_ (Cb (i:=3) (show (["a","b","c","e","high","wide"]:List Str).Nodup from by decide +kernel) rfl (by right) (by first|exact .inl rfl|exact .inr rfl)) (MH (i:=3) (js:=[]) (by decide)) ?_ (kJ ao rfl rfl ?_)))⟩)<;>ac_rfl)) |((with_reducible show PE _ (.Compare _ [.Eq] _ _) _);(refine IZ (Wi hr.units) ?_ ?_ (EL _)<;>ac_rfl)) |((with_reducible show PE _ (.Compare _ [.NotEq] _ _) _);(refine IZ (Wj hr.units) ?_ ?_ (EL _)<;>ac_rfl)) |((with_reducible show PE _ (.Compare _ [.In] _ _) _);first |(refine IZ gm ?_ ?_ (by with_unfolding_all rfl)<;>ac_rfl) |(refine IZ mB ?_ ?_ (by with_unfolding_all rfl)<;>ac_rfl)) |((with_reducible show PE _ (.Compare _ [.IsNot] _ _) _);(refine IZ U7 ?_ ?_ (EL _)<;>ac_rfl)) |((with_reducible show PE _ (.Compare _ [.Lt] _ _) _);(refine IZ Md ?_ ?_ (EL _)<;>ac_rfl)) |((with_reducible show PE _ (.Compare _ [_,_] _ _) _);(refine fQ U5 U5 ?_ ?_ ?_<;>ac_rfl)) |((with_reducible show PE _ (.BoolOp _ _ _) _);first |(refine fJ ?_ ?_<;>ac_rfl) |(refine fH ?_;ac_rfl)) |((with_reducible show PE _ (.UnaryOp _ _ _) _);first |(refine fK ?_;ac_rfl) |(refine hV ?_;ac_rfl)) |((with_reducible show PE _ (.IfExp _ _ _ _) _);(refine fM ?_ ?_ ?_<;>ac_rfl)))
local macro_rules |`(tactic|nofun)=>`(tactic|first |((with_reducible show PT _ (.Compare _ [.Eq] _ _) _);(refine Hm (Wi hr.units) ?_ ?_ (EL _)<;>ac_rfl)) |((with_reducible show PT _ (.Compare _ [.NotEq] _ _) _);(refine Hm (Wj hr.units) ?_ ?_ (EL _)<;>ac_rfl)) |((with_reducible show PT _ (.Compare _ [.GtE] _ _) _);(refine Hm gb ?_ ?_ (EL _)<;>ac_rfl)) |((with_reducible show PT _ (.Compare _ [.Gt] _ _) _);(refine Hm f9 ?_ ?_ (EL _)<;>ac_rfl)) |((with_reducible show PT _ (.Compare _ [.Is] _ _) _);(refine Hm gh ?_ ?_ (EL _)<;>ac_rfl)) |((with_reducible show PT _ (.Compare _ [.IsNot] _ _) _);(refine Hm U7 ?_ ?_ (EL _)<;>ac_rfl)) |((with_reducible show PT _ (.Compare _ [.Lt] _ _) _);(refine Hm Md ?_ ?_ (EL _)<;>ac_rfl)) |((with_reducible show PT _ (.Compare _ [_,_] _ _) _);(refine fR Md Md ?_ ?_ ?_<;>ac_rfl)) |((with_reducible show PT _ (.UnaryOp .Not _ _) _);(refine fG ?_;ac_rfl)) |((with_reducible show PT _ (.BoolOp _ _ _) _);(refine fF (U2 ?_ ?_)<;>ac_rfl)) |((with_reducible show PT _ _ _);(refine fy ?_;ac_rfl)))
local macro_rules |`(tactic|contradiction)=>`(tactic|first |((with_reducible show PI _ _ (.Call (.Name _ _) _ _ _) _);first |(refine gN rfl (B _ (by decide +kernel)) ?_;ac_rfl) |(refine gO rfl (B _ (by decide +kernel)) ?_;ac_rfl) |(refine jd rfl (B _ (by decide +kernel)) ?_;ac_rfl) |(refine iY rfl (B _ (by decide +kernel)) ?_;ac_rfl)) |((with_reducible show PI _ _ _ _);first |(refine lS ?_;ac_rfl) |(refine gM ?_;ac_rfl)))
local macro_rules |`(tactic|bv_omega)=>`(tactic|first |((with_reducible show PS _ (.Return _ _) _);first |with_reducible exact O1 |(refine gD ?_;ac_rfl)) |((with_reducible show PS _ (.Expr _ _) _);first |with_reducible exact O1 |(refine gC ?_;ac_rfl)) |((with_reducible show PS _ (.If _ _ _ _) _);(refine gE ?_ ?_ ?_<;>ac_rfl)) |((with_reducible show PS _ (.Assign [.Name _ _] (.ListComp _ _ _ _) _) _);first |(refine P9 rfl nd rfl (by right) (by exfalso) ?_ (Vn rfl) fun C D cells fp s₀ H₀ pins=>⟨?_,?_,?_⟩<;>ac_rfl) |(refine P9 rfl nd rfl (by right) (by exfalso) ?_ (Vo rfl rfl) fun C D cells fp s₀ H₀ pins=>⟨?_,?_,?_⟩<;>ac_rfl) |(refine P9 rfl nd rfl (by right) (by exfalso) ?_ (Wq rfl rfl rfl) fun C D cells fp s₀ H₀ pins=>⟨?_,?_,?_⟩<;>ac_rfl)) |((with_reducible show PS _ (.Assign [.Name _ _] _ _) _);((with_reducible refine Vc ?_ ?_ ?_ ?_ ?_ ?_)<;>ac_rfl)) |((with_reducible show PS _ (.For _ _ _ _ _) _);(refine gP VP rfl ?_ ?_ ?_<;>ac_rfl)) |((with_reducible show PS _ (.Assign [.Tuple _ _ _] _ _) _);first |((refine mx ?_ (mw rfl (CZ (Cb (by symm) rfl (by right)) (CZ (Cb (by symm) rfl (by right)) Hh))));ac_rfl) |(refine gG rfl nd rfl rfl (by decide) rfl rfl ?_ (by first |rfl |with_unfolding_all rfl);ac_rfl) |(refine gJ ?_ ?_<;>ac_rfl)) |((with_reducible show PS _ (.Assign [.Attribute _ _ _] _ _) _);(refine md (by show KR K _ _;with_reducible assumption) ?_ ?_<;>ac_rfl)) |((with_reducible show PS _ (.Assign [.Subscript _ _ _] _ _) _);(refine hG ?_ ?_ ?_<;>ac_rfl)) |((with_reducible show PS _ (.While _ _ _ _) _);(refine jm VP ?_ ?_<;>ac_rfl)) |((with_reducible show PS _ (.Raise _ _ _) _);first |with_reducible exact O1 |(refine j8 et (by decide +kernel) (by decide +kernel) rfl rfl iM ?_;ac_rfl)) |((with_reducible show PS _ (.Try _ _ _ _ _) _);exact mM (k:=1) Pk rfl rfl rfl rfl rfl (by show GP l.prog w K mg base _ _ _ _;with_reducible assumption) hr (by decide) (by decide) et rfl rfl (by show CaM l.prog w K mg base _ _ _;with_reducible assumption)) |((with_reducible show PS _ (.AugAssign _ _ _ _) _);(refine iT ?_ ?_ ?_<;>ac_rfl)))
local macro_rules |`(tactic|split)=>`(tactic|first |((with_reducible show PW _ _ _);first |(refine U2 ?_ ?_<;>ac_rfl) |(refine fB ?_;ac_rfl)) |((with_reducible show FT _ (.Name _ _) _);exact gH (Cb (by symm) rfl (by right))) |((with_reducible show FT _ (.Tuple [_,_] _ _) _);first |exact gI (Vv rfl (Cb (by symm) rfl (by right)) (Cb (by symm) rfl (by right))) |exact PN (IV rfl (CZ (Cb (by symm) rfl (by right)) (CZ (Cb (by symm) rfl (by right)) Hh)))) |((with_reducible show FT _ (.Tuple [_,_,_] _ _) _);exact PN (IV rfl (CZ (Cb (by symm) rfl (by right)) (CZ (Cb (by symm) rfl (by right)) (CZ (Cb (by symm) rfl (by right)) Hh))))) |((with_reducible show FT _ (.Tuple [_,_,_,_] _ _) _);exact PN (IV rfl (CZ (Cb (by symm) rfl (by right)) (CZ (Cb (by symm) rfl (by right)) (CZ (Cb (by symm) rfl (by right)) (CZ (Cb (by symm) rfl (by right)) Hh)))))) |((with_reducible show PG _ (.Name _ _) _);exact Cb (by symm) rfl (by right)) |((with_reducible show PG _ (.Tuple [.Name _ _,.Name _ _] _ _) _);exact Vv rfl (Cb (by symm) rfl (by right)) (Cb (by symm) rfl (by right))) |((with_reducible show PG _ (.Tuple [_,_] _ _) _);exact IV rfl (CZ (Cb (by symm) rfl (by right)) (CZ (IV rfl (CZ (Cb (by symm) rfl (by right)) (CZ (Cb (by symm) rfl (by right)) Hh))) Hh))) |exact mH |(refine mI ?_ ?_<;>ac_rfl) |rfl |exact nd |exact Or.inl rfl |exact Or.inr rfl |exact gW |(refine gX ?_;ac_rfl) |exact iQ |(refine iR ?_;ac_rfl))
local macro_rules |`(tactic|ac_rfl)=>`(tactic|first |((with_reducible show PE _ _ _);infer_instance) |((with_reducible show PA _ _ _);first |with_reducible exact Kr |((with_reducible refine Ja ?_ ?_ ?_)<;>ac_rfl)) |((with_reducible show PS _ _ _);bv_omega) |((with_reducible show DF _ _ _);first |with_reducible exact gF |with_reducible exact gB |((with_reducible refine O0 ?_);ac_rfl) |((with_reducible refine Vb ?_ ?_)<;>ac_rfl) |(refine O0 ?_;ac_rfl) |(refine Vb ?_ ?_<;>ac_rfl)) |((with_reducible show PT _ _ _);nofun) |((with_reducible show PI _ _ _ _);contradiction) |split)
section
local macro_rules |`(tactic|injections)=>`(tactic|(have HS:=z.1;have X:=z.2;have G:=z.3;obtain ⟨fs,cs,bs,et,ms,cl,tbz,wx,wt⟩:=HS;have B:=WI bs X G;obtain ⟨_,M_MOST_LINES⟩:=cs 0 "MOST_LINES" 8 rfl;replace M_MOST_LINES:=mg_of X G M_MOST_LINES;obtain ⟨_,M_FIGURES⟩:=Tp.strsIn_of wx 0 "FIGURES" "0123456789" rfl;replace M_FIGURES:=mg_of X G M_FIGURES;obtain ⟨_,M_LIGHT_SIGNS⟩:=Tp.strsIn_of wx 1 "LIGHT_SIGNS" ".#" rfl;replace M_LIGHT_SIGNS:=mg_of X G M_LIGHT_SIGNS;have T_FIRST_BOARD:=wt 0 "FIRST_BOARD" [[0]] rfl;have Cl_Desk:=cl 0 "Desk" ["kept"] rfl;have L_Desk:=MW Cl_Desk;have Cl_Keeper:=cl 1 "Keeper" ["now","earlier"] rfl;have L_Keeper:=MW Cl_Keeper))
local macro_rules
 |`(tactic|exists $a,$b,$c)=>`(tactic|(injections;exact WH (fs $a _ $b rfl) X G (N:=$c) (ps:=$c) fun nd _ _ _ _ _ _ _ hr=>by ac_rfl))
 |`(tactic|exists $a,$b,$c,$d)=>`(tactic|(injections;exact WH (fs $a _ $b rfl) X G (N:=$c) (ps:=List.take $d $c) fun nd _ _ _ _ _ _ _ hr=>by ac_rfl))
 |`(tactic|exists $a,$b,$c,$d,$e)=>`(tactic|(injections;exact mq (ms $a _ _ $b rfl) $e (N:=$c) (ps:=List.take $d $c) fun nd _ _ _ _ _ _ _ hr=>by ac_rfl))
 |`(tactic|exists $a,$b,$c,$d,$e,$_)=>`(tactic|(injections;exact mr (ms $a _ _ $b rfl) $e (N:=$c) (ps:=List.take $d $c) fun nd _ _ _ _ _ _ _ hr=>by ac_rfl))
structure Zc (l:OpenLaw) (w:World) (K:Frag) (base h:Heap) (mg:Str→Option Value):Prop where
 HS:Tp.w8 LI K
 X:K.In h
 G:h.Ns mainGlobals mg
section
variable {l:OpenLaw} {w:World} {K:Frag} {h base:Heap} {mg:Str→Option Value} (z:Zc l w K base h mg)
include z
abbrev Zc.A (_:Zc l w K base h mg) (n:Str) (k:Nat) (F:TF):Prop:=CaE l.prog w K mg base n k F
abbrev Zc.M (_:Zc l w K base h mg) (c n:Str) (k:Nat) (F:TF):Prop:=GP l.prog w K mg base c n k F
theorem ag:z.A "is_whole" 1 Ib:=by exists 0,Sj,["thing"]
theorem ah:z.A "is_line_tuple" 1 M0:=by exists 1,Sk,["thing"]
theorem rR:z.A "row_switched" 1 Qg:=by exists 2,Sl,["row","columns","is_turned"]
theorem rS:z.A "all_fours" 1 Qh:=by exists 3,Sn,["board","high","wide"],1
theorem rT:z.A "is_odd_four" 1 Qi:=by exists 4,So,["board","four","a","b","c","e"],2
theorem ai:z.A "counts_with_row" 1 M1:=by exists 5,Sq,["counts","row"]
theorem rV:z.A "fewest_lit" 1 Qj:=by exists 6,Sr,["counts","high"]
theorem rW:z.A "fuller_columns" 1 Qk:=by exists 7,Ss,["counts","high"]
theorem rX:z.A "ways_with_column" 1 M3:=by exists 8,Su,["ways","count","high","more","lit","many"],3
theorem aj:z.A "fraction" 1 KY:=by exists 9,Sv,["top","bottom","divisor","rest"],2
theorem rY:z.A "with_lights" 1 M4:=by exists 10,Sy,["counts","lights"]
theorem rZ:z.A "light_turned" 1 Ql:=by exists 11,Sz,["board","row","column","lights"],3
theorem Li:z.M "Keeper" "change_to" 1 GR:=by exists 0,SA,["self","board"],2,Cl_Keeper
theorem r0:z.M "Keeper" "undo" 1 KZ:=by exists 1,SB,["self"],1,Cl_Keeper
theorem ak:z.M "Keeper" "board" 1 JJ:=by exists 2,SD,["self"],1,Cl_Keeper
theorem r8:z.A "signs_read" 1 M5:=by exists 12,SE,["text","signs"]
theorem r9:z.A "need_text" 1 Qo:=by exists 13,SF,["thing"]
theorem N3:z.A "need_row" 1 GS:=by exists 14,SG,["holds"]
theorem sd:z.A "_law_cell" 1 Qq:=by exists 15,SH,["_law_script","_law_k"]
theorem se:z.A "_law_mix" 1 Qr:=by exists 16,SI,["_law_cell_here","_law_k","_law_number"],2
theorem J4:z.A "_law_take" 1 Bz:=by exists 17,SJ,["_law_box_here","_law_many","_law_left","_law_digit"],2
theorem sh:CaM l.prog w K mg base "_law_kind" 1 GT:=by injections;exact lz (fs 18 _ SK rfl) X G (N:=["_law_e","_law_kinds","_law_words"]) (ps:=["_law_e"]) fun nd _ _ _ _ _ _ hr=>by ac_rfl
theorem aq:z.A "_law_switched" 1 Ic:=by exists 19,SL,["_law_board_here","_law_rows","_law_columns","_law_found","_law_number","_law_row","_law_line","_law_place","_law_light"],3
theorem si:z.A "_law_ones" 1 M6:=by exists 20,SM,["_law_found","_law_number"],0
theorem R1:z.A "_law_text" 1 Dr:=by exists 21,SO,["_law_board_here"]
theorem sj:z.A "_law_fours" 1 Qt:=by exists 22,SQ,["_law_board_here","_law_total","_law_a","_law_b","_law_unlike"],1
theorem au:z.A "_law_form" 1 Ie:=by exists 23,SU,["_law_board_here","_law_found","_law_row"],1
theorem R3:z.A "is_between" 2 Ig:=by have:=ag z;exists 24,SV,["thing","least","most"]
theorem av:z.A "is_lot" 2 JK:=by have:=ag z;exists 25,SW,["thing","size","last","number"],2
theorem aw:z.A "ways_of_counts" 2 JL:=by have:=rX z;exists 26,SX,["counts","high","ways","count"],2
theorem sk:z.A "figures_read" 2 M8:=by have:=N3 z;exists 27,SY,["text","words"],1
theorem so:z.A "_law_box" 2 K0:=by have:=sd z;have:=se z;exists 28,S0,["_law_script","_law_k","_law_here","_law_number","_law_j"],2
theorem ax:z.A "_law_wide_box" 2 K1:=by have:=J4 z;exists 29,S3,["_law_box_here","_law_number","_law_many","_law_j"],1
theorem sr:z.A "_law_lot" 2 JM:=by have:=J4 z;exists 30,S4,["_law_box_here","_law_size"]
theorem su:z.A "_law_least" 2 Qw:=by have:=si z;exists 31,S6,["_law_board_here","_law_ones_here","_law_wide","_law_masks","_law_found","_law_columns","_law_counts"],1
theorem sv:z.A "is_light" 3 Qx:=by have:=R3 z;exists 32,Ta,["thing"]
theorem sA:z.A "need_number" 3 M9:=by have:=R3 z;exists 33,Tb,["thing","least","most"]
theorem R4:z.A "need_line" 3 GU:=by have:=R3 z;exists 34,Tc,["thing","many"]
theorem sC:z.A "sum_of_column" 3 Qz:=by have:=aw z;exists 35,Td,["lit","free","high","ways"],3
theorem R5:z.A "_law_board" 3 GV:=by have:=J4 z;have:=ax z;exists 36,Te,["_law_box_here","_law_high","_law_wide","_law_way","_law_digits","_law_dense","_law_rows","_law_number"],3
theorem sD:z.A "is_row" 4 QC:=by have:=ah z;have:=sv z;exists 37,Tf,["thing"]
theorem sE:z.A "need_size" 4 QE:=by have:=sA z;exists 38,Tg,["high","wide"]
theorem ay:z.A "sum_of_columns" 4 Na:=by have:=sC z;exists 39,Th,["counts","free","high"]
theorem sF:z.M "Keeper" "light" 4 JN:=by have:=R4 z;have:=rZ z;have:=Li z;exists 3,Ti,["self","row","column"],3,Cl_Keeper
theorem sG:z.A "_law_alike" 4 Nd:=by have:=sr z;have:=aq z;have:=J4 z;have:=R5 z;have:=au z;exists 40,Tj,["_law_box_here","_law_board_here","_law_other","_law_same"],2
theorem az:z.A "is_board" 5 Nf:=by have:=ah z;have:=sD z;exists 41,Tn,["thing"]
theorem sH:z.A "mean_left" 5 Ng:=by have:=sE z;have:=ay z;have:=aj z;exists 42,To,["high","wide"]
theorem E2:z.A "need_board" 6 Ds:=by have:=az z;exists 43,Tq,["thing"]
theorem aA:z.A "bound_of" 6 Nh:=by have:=sH z;exists 44,Tr,["high","wide"]
theorem sI:z.A "board_read" 6 JO:=by have:=r9 z;have:=r8 z;have:=az z;exists 45,Ts,["text","board"],1
theorem aB:z.A "row_counts" 7 Nj:=by have:=E2 z;exists 46,Tt,["board"]
theorem sJ:z.A "is_switching" 7 QG:=by have:=E2 z;have:=av z;exists 47,Tu,["board","thing"]
theorem aC:z.A "turned" 7 Nk:=by have:=E2 z;exists 48,Tv,["board"]
theorem sL:z.A "same_size" 7 QH:=by have:=E2 z;exists 49,Tw,["one","other"]
theorem sM:z.A "odd_fours" 7 QJ:=by have:=E2 z;have:=rS z;have:=rT z;exists 50,Tx,["board"]
theorem sN:z.A "road_of" 7 QK:=by have:=E2 z;have:=rY z;have:=ay z;have:=aj z;exists 51,Tz,["board","high","counts","road","number","row","free","choices","sums","turn"],1
theorem sO:HZ l.prog w K mg base "Keeper" 7 Nl:=by have:=E2 z;exists 4,TB,["self","board"],2,Cl_Keeper,0
theorem sP:z.A "board_text" 7 QM:=by have:=E2 z;exists 52,TC,["board"]
theorem sQ:z.A "lit_many" 8 QN:=by have:=aB z;exists 53,TH,["board"]
theorem aD:z.A "column_counts" 8 Nm:=by have:=aC z;have:=aB z;exists 54,TJ,["board"]
theorem sR:z.A "need_switching" 8 QP:=by have:=sJ z;exists 55,TK,["board","thing"]
theorem Lj:z.A "switched" 9 Ih:=by have:=sR z;have:=rR z;exists 56,TL,["board","switching","rows","columns"],2
theorem aE:z.A "lots_with_counts" 9 FD:=by have:=aD z;have:=ai z;exists 57,TM,["board","found","number"],1
theorem sS:z.A "counts_by" 9 QR:=by have:=E2 z;have:=av z;have:=aD z;have:=ai z;exists 58,TN,["board","rows","counts","number"],2
theorem sT:HZ l.prog w K mg base "Desk" 9 Ii:=by have:=sO z;exists 5,TQ,["self"],1,Cl_Desk,0
theorem sU:z.A "switching_to" 10 JP:=by have:=sL z;have:=Lj z;exists 59,TR,["one","other","columns","turned_first","rows"],2
theorem sV:z.A "form_of" 10 QU:=by have:=E2 z;have:=Lj z;exists 60,TU,["board","columns","rows"],1
theorem sW:z.A "left_many" 10 QV:=by have:=aE z;have:=rV z;exists 61,TV,["board"]
theorem sX:z.A "best_columns" 10 QW:=by have:=sS z;have:=rW z;exists 62,TX,["board","rows"]
theorem aF:z.A "left_counts" 10 JQ:=by have:=E2 z;have:=aE z;have:=aw z;exists 63,TY,["board","high","totals","lot","counts","ways"],1
theorem sY:z.M "Keeper" "row" 10 K2:=by have:=R4 z;have:=Lj z;have:=Li z;exists 6,TZ,["self","number"],2,Cl_Keeper
theorem sZ:z.M "Keeper" "column" 10 K3:=by have:=R4 z;have:=Lj z;have:=Li z;exists 7,T1,["self","number"],2,Cl_Keeper
theorem td:z.A "are_alike" 11 JR:=by have:=sU z;exists 64,T3,["one","other"]
theorem aG:z.A "road_switching" 11 Nn:=by have:=sN z;have:=sX z;exists 65,T4,["board","road","rows"],1
theorem ti:z.A "answer_to" 11 Ew:=by have:=sP z;have:=sQ z;have:=sW z;have:=aA z;have:=sM z;have:=aF z;exists 66,T6,["board","word"]
theorem tj:z.M "Desk" "do_at" 11 Ij:=by have:=N3 z;have:=sF z;have:=sY z;have:=sZ z;exists 8,T7,["self","word","numbers"],3,Cl_Desk
theorem tw:z.A "_law_told" 11 FE:=by have:=R1 z;have:=su z;have:=aA z;have:=sj z;have:=aF z;exists 67,T8,["_law_word","_law_board_here"]
theorem tB:z.A "board_made" 12 Nr:=by have:=aG z;have:=Lj z;have:=sV z;have:=aC z;exists 68,T9,["board","word"]
theorem tE:z.A "_law_made" 12 CD:=by have:=aq z;have:=aG z;have:=au z;exists 69,Ua,["_law_word","_law_numbers","_law_board_here","_law_high","_law_wide","_law_row","_law_place","_law_line","_law_rows","_law_columns"],3
theorem tF:z.M "Desk" "say_word" 13 Nt:=by have:=ak z;have:=ti z;have:=r0 z;have:=tB z;have:=N3 z;have:=Li z;exists 9,Ub,["self","word","answer","made"],2,Cl_Desk
theorem tG:z.A "_law_step" 13 Nu:=by have:=J4 z;have:=R5 z;have:=R1 z;have:=sG z;have:=tw z;have:=tE z;exists 70,Uc,["_law_box_here","_law_past","_law_board_here","_law_way","_law_later","_law_other","_law_due","_law_word","_law_sizes","_law_numbers","_law_row"],2
theorem tH:z.M "Desk" "say" 14 Cd:=by have:=N3 z;have:=tF z;have:=sI z;have:=ak z;have:=td z;have:=Li z;have:=sk z;have:=tj z;exists 10,Ud,["self","row","word","blank","rest"],2,Cl_Desk
theorem tI:z.A "_law_answer" 15 CL:=by have:=sh z;have:=tH z;exists 71,Ue,["_law_desk","_law_row","_law_word","_law_e"],2
end
end
theorem all_mk {l:OpenLaw} {K:Frag} {h:Heap} {mg:Str→Option Value} (HS:Tp.w8 LI K) (X:K.In h) (G:h.Ns mainGlobals mg) (hfa:mg "law"=some (.ref fa)):
 ∃fd:FuncData,(∀(s:Shared) (v:Value),BindsTo s fd ⟨[v],[]⟩ [("_law_script",v)])∧∀base:Heap,K.In base→base.Ns mainGlobals mg→KL mg base→wz l.prog w K mg base (Br l.prog w K) 16 fa fd ["_law_script"] (LS.spE K F_law):=by
 have HS0:=HS;obtain ⟨fs,cs,bs,et,ms,cl,tbz,wx,wt⟩:=HS;obtain ⟨f_law,_,an_law,_,_,kV_law,dc_law,pm_law,cd_law,ct_law,a_law,l_law,c_law,k_law⟩:=fs 72 "law" s_law rfl;cases hfa.symm.trans (mg_of X G a_law);have B:=WI bs X G;obtain ⟨t_MOST_LINES,v_MOST_LINES⟩:=cs 0 "MOST_LINES" 8 rfl;have M_MOST_LINES:=mg_of X G v_MOST_LINES;obtain ⟨t_FIGURES,v_FIGURES⟩:=Tp.strsIn_of wx 0 "FIGURES" "0123456789" rfl;have M_FIGURES:=mg_of X G v_FIGURES;obtain ⟨t_LIGHT_SIGNS,v_LIGHT_SIGNS⟩:=Tp.strsIn_of wx 1 "LIGHT_SIGNS" ".#" rfl;have M_LIGHT_SIGNS:=mg_of X G v_LIGHT_SIGNS;have T_FIRST_BOARD:=wt 0 "FIRST_BOARD" [[0]] rfl;refine ⟨fnOf "law" "law" (wq s_law) (wh s_law) (wb s_law) .none kV_law dc_law pm_law an_law cd_law ct_law,fun s v=>.of_eq rfl,fun base _ _ hbm=>?_⟩;have z:Zc l w K base h mg:=⟨HS0,X,G⟩
 have Cl_Desk:=cl 0 "Desk" ["kept"] rfl;have L_Desk:=MW Cl_Desk;have Cl_Keeper:=cl 1 "Keeper" ["now","earlier"] rfl;have L_Keeper:=MW Cl_Keeper;have:=J4 z;have:=R1 z;have:=so z;have:=ax z;have:=R5 z;have:=sT z;have:=tG z;have:=tI z;have sc:Fd ["_law_script","_law_k","_law_box_here","_law_desks","_law_pasts","_law_turn","_law_at","_law_row","_law_due","_law_later","_law_board_here"] ["_law_script"] (wb s_law):=⟨rfl,rfl,rfl,by decide +kernel,rfl,by decide +kernel,by decide +kernel⟩
 have nd:=sc.nd;exact Mu (kr X G l_law c_law k_law a_law fun _ _ _ _ _ _ _=>rfl).fn sc (fun ds h e=>if_neg e) (fun ds h e=>if_pos e) (fun cdv A outer s H E hr=>by ac_rfl)
end
end LK
end
open PySem PySem.W PyProof.Rows
set_option maxRecDepth 100000 in
set_option maxHeartbeats 0 in
theorem PySem.Challenge.cw_lineswitch_k98_desks_answer_holds : PySem.Challenge.rw_lineswitch_k98_desks_answer.Holds := by
 w_on;refine PySem.W.holds_law LK.said_ok fun said=>?_
 refine PySem.W.holds_open (q:=LK.top_q) (loose:=LK.top_loose) (d:=⟨"law",L2.wq LK.s_law,L2.wh LK.s_law,L2.wb LK.s_law,_⟩) (kwd:=[]) (Xt:=fun _=>true) (XP:=fun _ _=>True) (N:=1000000) LK.top_left Tp.saysZ_of Tp.SaysZ.keeps (fun _ _=>trivial) (fun _ _ _ _ _=>trivial) (by rfl) (by kernel_rfl) (by kernel_rfl) (fun s _=>recFacts_nil (by rfl)) (by rfl) (by assumption) (by kernel_rfl) ⟨rfl,rfl,rfl,rfl,rfl,by decide +kernel⟩ ?hw ?hc
 case hw=>w_witness2
 case hc=>exact LS.walk_hdZ (n:=63) (k:=16) (x:="_law_script") (F:=LK.F_law) rfl (by decide) rfl ⟨rfl,by decide,by decide,rfl⟩ (fun w K mg fa h HS X G hfa=>LK.all_mk HS X G hfa) LK.law_true
