import PyProof.Rows.All
import Wide.All
import OpenK.AllK
import Wide.FinOn
import Lean
import PyProof.EqAt
import PyProof.EqKinds
import PyProof.TupleCall
import PySem.Challenge.RW_quotefind_k28_itself
set_option Elab.async false
set_option linter.all false
set_option maxRecDepth 100000
set_option hygiene false in
local macro_rules
|`(tactic|o_head $H)=>`(tactic|refine holds_open (q:=HD.q HD.pw) (loose:=HD.loose) (Xt:=HD.Xt HD.pw []) (XP:=XL (HD.q HD.pw) []) (Yf:=Hook.obs $H) (Ya:=Hook.val $H) (YP:=Hook.says $H) (d:=HD.d) (kwd:=[]) (N:=HD.GQ) (HD.left HD.pw HD.S8 $H fun w os=>by kernel_rfl) (Hook.of $H) (Hook.keeps $H) (fun s e=>xl_of s (Bool.and_eq_true_iff.mp e).1) XL.keeps (by kernel_rfl) (by kernel_rfl) (by kernel_rfl) (fun s e=>recFacts_of (Bool.and_eq_true_iff.mp e).2) (by rfl) (by assumption) (by decide+kernel) ⟨rfl,rfl,rfl,rfl,rfl,by decide+kernel⟩ ?hw ?hc)
|`(W8 $a $b)=>`(@ak _ _ _ _ _ $a $b (by rfl))
|`(W9 $a $b $c)=>`(@aR _ _ _ _ _ _ _ _ _ _ _ _ $a (hr.mono (by decide)) $b $c (by rfl) (by decide) (by rfl) (by rfl))
|`(W_ $a $b $c)=>`(@aH _ _ $a _ _ _ _ $b (by exact rfl) (Or.inl rfl) $c (by rfl) (by exact .inl rfl))
|`(W' $a $b $c)=>`(@aO _ _ $a _ $b (by exact rfl) $c (by first|exact .inl rfl|exact .inr rfl|assumption))
|`(Xa $a $b $c)=>`(@aG _ _ _ _ _ _ _ $a $b $c (fun _ _=>rfl))
|`(Xb $a $b $c $d $e)=>`(@aM _ _ _ _ _ _ _ _ _ $a $b $c $d $e (by decide) (by decide) (by rfl) (by rfl))
|`(Xc $a $b)=>`(@aC _ $a _ _ _ _ $b (by rfl) (by rfl))
|`(Xd $a)=>`(List.getElem?_eq_some_iff.mp $a)
|`(Xe $a $b $c)=>`(@aI _ _ _ _ _ _ _ _ $a $b $c)
|`(Xf $a $b $c $d $e)=>`(@bE _ _ _ _ _ _ _ _ _ _ _ _ _ _ _ _ $a $b $c $d $e (by rfl) (by rfl) (by rfl))
|`(Xg $a $b $c $d $e $f $g)=>`(@fB _ $a _ _ _ _ _ _ _ _ _ _ _ $b $c $d $e $f $g (by rfl) (by rfl) (by rfl) (by rfl) (by rfl) (by rfl))
|`(Xh $a)=>`(@ao _ _ _ $a)
|`(Xi $a)=>`(List.mem_of_getElem? $a)
|`(Xj $a $b)=>`(@ay _ _ _ _ _ $a $b)
|`(Xk $a)=>`(if_neg $a)
|`(Xl $a)=>`(Heap.get?_push_of_some _ $a)
|`(Xm $a)=>`(@f7 _ _ _ _ _ _ $a (by first|exact bH _ (by decide) (by decide)|rfl))
|`(Xn $a $b)=>`(@aE _ _ _ _ _ $a $b)
|`(Xo $a)=>`(if_pos $a)
|`(Xp $a $b $c)=>`(@bp _ _ _ _ _ _ _ _ $a $b $c)
|`(Xq $a $b $c)=>`(@bU _ $a _ _ _ _ _ _ _ $b $c (by rfl) (by rfl))
set_option hygiene false in
local macro_rules
|`(Xr)=>`((by simp))
|`(Xs)=>`((by omega))
|`(Xu)=>`((fun vs H Q E h=>?_))
|`(Xv)=>`((by lia))
|`(Xw)=>`((by exact rfl))
|`(Xx)=>`(by omega)
|`(Xy)=>`(by decide)
|`(Xz)=>`(by rfl)
|`(XA)=>`(by simp)
set_option maxHeartbeats 4000000
namespace HD
open PySem PySem.W PyProof.Rows
noncomputable section
noncomputable abbrev pw:Program:=PySem.Challenge.pw_quotefind_k28_itself
noncomputable abbrev pq:Program:=pw
theorem S8:pw=pq:=rfl
def z0:Str:=⟨⟨[60,109,111,100,117,108,101,62]⟩⟩
def z1:Str:=⟨⟨[95,95,109,97,105,110,95,95]⟩⟩
def QU:Str:=⟨⟨[47,99,108,97,105,109,47,99,117,116,46,112,121]⟩⟩
noncomputable abbrev y0:String:=PySem.W.SL.s658472552662922059x5
noncomputable abbrev S9:String:=PySem.W.SL.s5856160107412720595x4
noncomputable abbrev R(a:Addr):Value:= .ref a
noncomputable abbrev I(i:Int):Value:= .int i 0
noncomputable abbrev N:Value:= .none
noncomputable abbrev U(v:Value):Option Value:=some v
noncomputable abbrev B:=BT.node
noncomputable abbrev L:=BT.nil
noncomputable abbrev tu(l:List Value):Obj:=⟨.type "tuple",none, .seq ⟨l⟩ 0,⟨[]⟩⟩
noncomputable abbrev fi(l:List Value):Obj:=⟨.none,none, .fields ⟨l⟩,⟨[]⟩⟩
noncomputable abbrev cd(n:Str)(t:Nat)(l a f:Int)(r8:Addr)(b:Bool)(S_:Addr)(Td Tf Tg:Value)(t3:Int)(t4:Nat):Obj:=⟨.type S9,none, .fields ⟨[.str n t, .str n (t+1), .str QU (t+2),I l,I a,I 0,I 0,I f,R r8, .bool b,I 181,R S_,N,Td,Tf,Tg,I t3,I l, .str QU t4]⟩,⟨[]⟩⟩
noncomputable def tp(p:Program)(i:Nat):Stmt:=p.main.body.getD i (.Pass ⟨0,0,0,0⟩)
noncomputable def b0(_:Program)(P:Params):Obj:=PySem.W.boot_o_0 P
noncomputable def b1(_:Program)(P:Params):Obj:=PySem.W.boot_o_1 P
noncomputable def b2(_:Program)(P:Params):Obj:=PySem.W.boot_o_2 P
noncomputable def b3(_:Program)(P:Params):Obj:=PySem.W.boot_o_3 P
noncomputable def b4(_:Program)(P:Params):Obj:=PySem.W.boot_o_4 P
noncomputable def b5(_:Program)(P:Params):Obj:=PySem.W.boot_o_5 P
noncomputable def b6(_:Program)(P:Params):Obj:=PySem.W.boot_o_6 P
noncomputable def b7(_:Program)(P:Params):Obj:=PySem.W.boot_o_7 P
noncomputable def b8(_:Program)(P:Params):Obj:=PySem.W.boot_o_8 P
noncomputable def b9(_:Program)(P:Params):Obj:=PySem.W.boot_o_9 P
noncomputable def QV(_:Program)(P:Params):Obj:=PySem.W.boot_o_10 P
noncomputable def QW(p:Program)(P:Params):Obj:=tu []
noncomputable def QX(p:Program)(P:Params):Obj:=fi []
noncomputable def QY(p:Program)(P:Params):Obj:=cd z0 182 1 0 0 11 false 12 N N N 185 186
noncomputable def QZ(p:Program)(P:Params):Obj:=⟨(.type y0),none,.plain,⟨[U (R 13),U (R 3),U (R 3),none,U (.str z1 164),none,U (R 0)]⟩⟩
noncomputable def La(p:Program)(P:Params):List Obj:=[b0 p P,b1 p P,b2 p P,b3 p P,b4 p P,b5 p P,b6 p P,b7 p P,b8 p P,b9 p P,QV p P,QW p P,QX p P,QY p P,QZ p P]
noncomputable def Ta(p:Program)(P:Params):BT:=(B (b0 p P) (B (b1 p P) (B (b3 p P) (B (b7 p P) L L) (B (QW p P) L L)) (B (b5 p P) (B (b9 p P) L L) (B (QY p P) L L))) (B (b2 p P) (B (b4 p P) (B (b8 p P) L L) (B (QX p P) L L)) (B (b6 p P) (B (QV p P) L L) (B (QZ p P) L L))))
noncomputable def keep:List Nat:=[0,2,3,4,5,7,8,9,11,12,13,14,16,17,19,20,21,22,23,24,25,27,28,29,31,32,33,34,35,36,37,38,40,41,42,43,44,45,46,47,48,49,50,51,52,53]
noncomputable def loose:List Str:=[]
noncomputable def env(p:Program):Env:={scope:=p.main.scope,locals:=mainNs,globals:=mainNs,cells:=[],code:=(R 13),frame:=some 14}
noncomputable def cE(p:Program):Code:= .body (behindTheImports p) (env p)
noncomputable def qP:Pos:=⟨0,0,0,0⟩
noncomputable def pP:Pos:=⟨0,0,0,0⟩
noncomputable def bP:Pos:=⟨0,0,0,0⟩
noncomputable def fP:Pos:=⟨352,0,373,106⟩
noncomputable def an:Option Value:=(some (R 6))
noncomputable abbrev J7:Nat:=53
noncomputable abbrev m0:Nat:=11
noncomputable abbrev J8:Nat:=12
noncomputable abbrev J9:Nat:=1
noncomputable abbrev GO:Nat:=3554
noncomputable abbrev GP:Nat:=2
noncomputable abbrev GQ:Nat:=7832
noncomputable abbrev nA:Nat:=15
noncomputable abbrev Th:Nat:=187
noncomputable abbrev Ti:Nat:=187
end
end HD
namespace HD
open PySem PySem.W PyProof.Rows
noncomputable section
abbrev S0(w:World)(os:OsState):Shared:=⟨boot_heap w.params,⟨[]⟩,boot_drawn,boot_toks,os⟩
abbrev Sa(p:Program)(w:World)(os:OsState):Shared:=⟨⟨⟨La p w.params⟩,{}⟩,⟨[]⟩,{},Th,os⟩
abbrev Sb(p:Program)(w:World)(os:OsState):SharedT:=⟨Ta p w.params,nA,{},⟨[]⟩,{},Ti,os⟩
abbrev q(p:Program):Program:=view p keep
abbrev Xt(p:Program)(R:WRecords):Shared→Bool:=fun s=>xlAt (q p) [] s&&recOk R s
theorem J_(w:World)(os:OsState):topGo treeTable pq w m0 an J8 (S0 w os) (topStub pq)=some (Sa pq w os,⟨denote treeTable (cE pq),cE pq,pP,[topFrame qP]⟩):=by
 rewrite[Fast.te15667345088766844465,Fast.te14364793385576792824,Fast.te11892475500146522536];kernel_rfl
theorem J'(w:World)(os:OsState):segRun treeTable pq w m0 an 1 J9 (Sa pq w os) (blockOf (behindTheImports pq) (env pq) (cE pq) pP [topFrame qP])=some (.next,(Sb pq w os).abs,cE pq,bP):=by
 rewrite[Fast.te14374325043358763698,Fast.te14364793385576792824];kernel_rfl
def Rm(w:World)(os:OsState):=Fast.tw10110043849684766642 Fast.tw14364793385576792824 pq w m0 an 1 GO (Sb pq w os) (piecesOf (behindTheImports pq) (env pq) (cE pq) bP [topFrame qP])
def Sm(w:World)(os:OsState):SharedT:=match Rm w os with|some (_,s,_,_)=>s|none=>Sb pq w os
theorem Ka(w:World)(os:OsState):segRunT treeTable pq w m0 an 1 GO (Sb pq w os) (piecesOf (behindTheImports pq) (env pq) (cE pq) bP [topFrame qP])=some (.next,Sm w os,cE pq,fP):=by
 rewrite[Fast.te10110043849684766642,Fast.te14364793385576792824];kernel_rfl
def Rf(w:World)(os:OsState):=Fast.tw14082659384304107361 Fast.tw14364793385576792824 pq w m0 an GP (Sm w os).abs ⟨doneF .next,cE pq,fP,[topFrame qP]⟩
def Sf(w:World)(os:OsState):Shared:=match Rf w os with|some s=>s|none=>S0 w os
theorem Kb(w:World)(os:OsState):topRun treeTable pq w m0 an GP (Sm w os).abs ⟨doneF .next,cE pq,fP,[topFrame qP]⟩=some (Sf w os):=by
 rewrite[Fast.te14082659384304107361,Fast.te14364793385576792824];kernel_rfl
theorem GR(w:World):((boot_heap w.params).isNs mainGlobals&&(⟨[]⟩:Array GenState).size==0,(boot_heap w.params).objs.size,(boot_heap w.params).nsMap mainGlobals "__annotations__")=(true,m0,an):=by
 rewrite[Fast.te8920871248978507458];kernel_rfl
theorem GU:∀w:World,(fencedOpening treeTable pq w GQ).map (fun s=>(s.heap,s.gens,s.drawn,s.toks))=some (boot_heap w.params,⟨[]⟩,boot_drawn,boot_toks):=
 boot_open (by kernel_rfl) (by kernel_rfl) (fun s=>by kernel_rfl)
theorem Kc(w:World)(os:OsState):topRun treeTable pq w m0 an (J8+(J9+(GO+GP))) (S0 w os) (topStub pq)=some (Sf w os):=by
 refine go_top (J_ w os) (piece_block (J' w os) ?_);have h:=piece_app (rest:=[]) (segRun_of (Ka w os)) (piece_nil (env:=env pq) (Kb w os));rw[List.append_nil]at h;exact h
theorem Bx(w:World)(os:OsState):
 (staticsOk (importedModules pq.main.body) (boot_heap w.params) (Sf w os).heap&&namesBound pq (Sf w os).heap&&gensDone (Sf w os)&&laidKept (boot_heap w.params) (Sf w os).heap)=true
 ∧seen ((recsOf (q pq)).map (·.name)) (ownsOf (q pq)) [] {Sf w os with gens:=#[]}=expectedOf (q pq)
 ∧(Sf w os).heap.bltView=bltViewBooted:=by
 refine⟨?_,?_,?_⟩
 ·rewrite[Fast.te5923862056798008813];kernel_rfl
 ·rewrite[Fast.te5160383126252970620,Fast.te3399658132070893891,Fast.te5991557255702980513];kernel_rfl
 ·kernel_rfl
theorem GV(w:World)(os:OsState):
 ((Sf w os).heap.keysOk (looseW (q pq) loose) ((recsOf (q pq)).map (·.name)) ((litsOf (q pq)).map (·.1)) ((clssOf (q pq) (looseW (q pq) loose)).map (·.name))&&(Sf w os).heap.accountedOkI (importedModules pq.main.body)&&(Sf w os).heap.isNs mainGlobals&&(Sf w os).heap.isNs builtinsNs&&tablesOk (q pq) (Sf w os).heap&&Xt pq [] (Sf w os)&&(if true then(Sf w os).gens.size==0 else !leftWithCleanup (Sf w os).gens))=true:=by
 rewrite[Fast.te10880121769531294198,Fast.te821141287760084731,Fast.te3399658132070893891,Fast.te7409074990110511671,Fast.te13664370479719496447,Fast.te14722251495701143533,Fast.te5923862056798008813,Fast.te10994771534591457954];kernel_rfl
theorem GW(w:World)(os:OsState):
 tabsOk (q pq) (Sf w os)=true
 ∧pinSeenD (q pq) (drecsOf (q pq)) (Sf w os)=pinGoodD (drecsOf (q pq))
 ∧plainSeenE (q pq) (looseW (q pq) loose) (Sf w os)=plainGoodE (q pq) (looseW (q pq) loose)
 ∧plainSeenD (q pq) loose (Sf w os)=plainGoodD (q pq) loose
 ∧wideSeen (q pq) (Sf w os)=wideGood (q pq)
 ∧clsSeenW (q pq) loose (Sf w os)=clsGoodW (q pq) loose:=by
 refine⟨?_,?_,?_,?_,?_,?_⟩
 ·rewrite[Fast.te479339242167458305];kernel_rfl
 ·rewrite[Fast.te16090120013241838585,Fast.te3247288618530077131];kernel_rfl
 ·rewrite[Fast.te2386780881361962483,Fast.te821141287760084731];kernel_rfl
 ·rewrite[Fast.te11698064438423848299];kernel_rfl
 ·rewrite[Fast.te7317090234206586261];kernel_rfl
 ·rewrite[Fast.te7369524293546568484];kernel_rfl
theorem lx{p q:Program}{lo:List Str}{Xt:Shared→Bool}{α:Type}{Yf:Shared→α}{a:α}{w:World}{N M n:Nat}{h:Heap}{gs:Array GenState}{dr:Drawn}{k:Nat}{an:Option Value}{g:OsState→Shared}
  (o:(fencedOpening treeTable p w N).map (fun s=>(s.heap,s.gens,s.drawn,s.toks))=some (h,gs,dr,k)) (z:(h.isNs mainGlobals&&gs.size==0,h.objs.size,h.nsMap mainGlobals "__annotations__")=(true,n,an))
  (r:∀os,topRun treeTable p w n an M ⟨h,gs,dr,k,os⟩ (topStub p)=some (g os)) (le:M≤N) (x1:∀os,(staticsOk (importedModules p.main.body) h (g os).heap&&namesBound p (g os).heap&&gensDone (g os)&&laidKept h (g os).heap)=true)
  (x2:∀os,openSeen q lo (importedModules p.main.body) Xt true (g os)=openGood q lo) (x3:∀os,Yf (g os)=a):(openEnds treeTable p w N).map (fun s=>(openSeen q lo (importedModules p.main.body) Xt true s,Yf s))=some (openGood q lo,a):=by
 obtain⟨⟨h,gs,dr,k,os⟩,e1,e2⟩:=Option.map_eq_some_iff.mp o;cases e2;obtain⟨y1,y2⟩:=Prod.mk.inj z;obtain⟨y2,y3⟩:=Prod.mk.inj y2;have t:=topRun_mono (N-M) _ _ _ _ (r os);rw[Nat.add_sub_cancel' le]at t;have f:topFrom treeTable p w N ⟨h,gs,dr,k,os⟩=some (g os):=by
  unfold topFrom;dsimp only;rw[y1,y2,y3,t];show(match staticsOk _ h (g os).heap&&namesBound p (g os).heap&&gensDone (g os)&&laidKept h (g os).heap with|true=>_|false=>_)=_;rw[x1 os]
 unfold openEnds;rw[e1,Option.bind_some,f];exact congrArg some (Prod.ext (x2 os) (x3 os))
theorem left(p:Program)(e:p=pq)(H:Hook)(hk:∀w os,H.obs (Sf w os)=H.val w):LeftO p (q p) loose (Xt p []) H.obs H.val GQ:=by
 subst e;intro w;exact lx (g:=Sf w) (GU w) (GR w) (Kc w) (Xy) (fun os=>(Bx w os).1) (fun os=>let ⟨_,x2,x3⟩:=Bx w os;let ⟨x5,x6,x7,x8,x9,x0⟩:=GW w os;looks_pair x2 (looks_pair x3 (looks_pair (GV w os) (looks_pair x5 (looks_pair x6 (looks_pair x7 (looks_pair x8 (looks_pair x9 x0)))))))) (hk w)
def d:DefRec:=match tp pw J7 with
 | .FunctionDef n a b _ _ _ sc _ _ ps=>⟨n,a,b,sc,ps⟩
 | _=>⟨Str.empty,default,[],default,default⟩
end
end HD
namespace HD
theorem ws:PySem.W.OpenLaw.wellSaid PySem.Challenge.rw_quotefind_k28_itself=true:=by
 rewrite[PySem.W.Fast.te9446332074065402090];kernel_rfl
end HD
namespace L2
open PySem PySem.Spec PyProof.Rows
abbrev Key:=Sum Int Str
def s_:Key→Value→Bool
 | .inl k,v=>Value.isInt k v
 | .inr x,v=>Value.isStrOf x v
def N1(w:World):Key→Int
 | .inl k=>hashInt k
 | .inr x=>hashStr w x
theorem cJ:∀{k:Key}{v:Value},s_ k v=true→(∃i t,k=Sum.inl i∧v=Value.int i t)∨(∃x t,k=Sum.inr x∧v=Value.str x t)
 | .inl i,v,h=>by
  obtain⟨t,e⟩:=Value.isInt_shape (k:=i) (v:=v) h;exact .inl ⟨i,t,rfl,e⟩
 | .inr x,v,h=>by
  obtain⟨t,e⟩:=Value.isStrOf_shape (x:=x) (v:=v) h;exact .inr ⟨x,t,rfl,e⟩
theorem Zp(i:Int)(t:Tok):s_ (.inl i) (.int i t)=true:=by simp[s_,Value.isInt]
theorem Zz(x:Str)(t:Tok):s_ (.inr x) (.str x t)=true:=by simp[s_,Value.isStrOf]
theorem GX(a b:Int):decide ((Sum.inl a:Key)=Sum.inl b)=(a==b):=by
 by_cases e:a=b
 ·subst e;simp
 ·have h:¬(Sum.inl a:Key)=Sum.inl b:=fun q=>e (Sum.inl.inj q)
  rw[decide_eq_false h];exact(beq_eq_false_iff_ne.mpr e).symm
theorem GY(a b:Str):decide ((Sum.inr a:Key)=Sum.inr b)=decide (a=b):=by
 by_cases e:a=b
 ·subst e;simp
 ·have h:¬(Sum.inr a:Key)=Sum.inr b:=fun q=>e (Sum.inr.inj q)
  rw[decide_eq_false h,decide_eq_false e]
theorem GZ(a:Int)(b:Str):decide ((Sum.inl a:Key)=Sum.inr b)=false:=decide_eq_false (fun q=>nomatch q)
theorem G0(a:Str)(b:Int):decide ((Sum.inr a:Key)=Sum.inl b)=false:=decide_eq_false (fun q=>nomatch q)
def cK(prog:Program)(w:World):PySem.KeyKind prog w Key where
 is:=s_
 hash:=N1 w
 inj:=fun v a b ha hb=>by
  rcases cJ ha with⟨i,t,rfl,rfl⟩|⟨x,t,rfl,rfl⟩
  ·rcases cJ hb with⟨j,u,rfl,e⟩|⟨y,u,rfl,e⟩
   ·injection e with e1 _;rw[e1]
   ·exact nomatch e
  ·rcases cJ hb with⟨j,u,rfl,e⟩|⟨y,u,rfl,e⟩
   ·exact nomatch e
   ·injection e with e1 _;rw[e1]
 byValue:=fun k v h=>by
  rcases cJ h with⟨i,t,rfl,rfl⟩|⟨x,t,rfl,rfl⟩<;>rfl
 pyHash:=fun hv h=>by
  rcases cJ hv with⟨i,t,rfl,rfl⟩|⟨x,t,rfl,rfl⟩
  ·exact wpAny_pyHash_int h
  ·exact wpAny_pyHash_str h
 eqBool:=fun hu hv h=>by
  rcases cJ hu with⟨i,t,rfl,rfl⟩|⟨x,t,rfl,rfl⟩
  ·rcases cJ hv with⟨j,u,rfl,rfl⟩|⟨y,u,rfl,rfl⟩
   ·rw[GX]at h;exact wpAny_eqBool_int h
   ·rw[GZ]at h;exact SeqAt.EqAt.int_str i t y u _ _ _ _ h
  ·rcases cJ hv with⟨j,u,rfl,rfl⟩|⟨y,u,rfl,rfl⟩
   ·rw[G0]at h;exact SeqAt.EqAt.str_int x t j u _ _ _ _ h
   ·rw[GY]at h;exact wpAny_eqBool_str h
 «strs»:=fun k x t v h=>by
  rcases cJ h with⟨i,u,rfl,e⟩|⟨y,u,rfl,e⟩
  ·exact nomatch e
  ·injection e with e1 _;subst e1;cases v<;>rfl
theorem vP(prog:Program)(w:World)(i:Int)(t:Tok):(cK prog w).is (.inl i) (.int i t)=true:=Zp i t
theorem vQ(prog:Program)(w:World)(x:Str)(t:Tok):(cK prog w).is (.inr x) (.str x t)=true:=Zz x t
inductive V where
 |cD|bl (b:Bool)|int (i:Int)|str (x:Str)|XS (b:Array UInt8)|Fv (b:UInt64)|ref (a:Addr)|ty (n:String)
 deriving DecidableEq
def RelV:V→Value→Prop
 | .cD,u=>u=Value.none
 | .bl b,u=>u=Value.bool b
 | .int i,u=>∃t,u=Value.int i t
 | .str x,u=>∃t,u=Value.str x t
 | .XS b,u=>∃t,u=Value.bytes b t
 | .Fv b,u=>∃t,u=Value.float b t
 | .ref a,u=>u=Value.ref a
 | .ty n,u=>u=Value.type n
abbrev Vals:List V→List Value→Prop:=Paired RelV
theorem Vals.length{xs:List V}{us:List Value}(r:Vals xs us):xs.length=us.length:=Paired.length r
theorem Vals.get:∀{xs:List V}{us:List Value}{i:Nat}{x:V},Vals xs us→xs[i]?=some x→∃u,us[i]?=some u∧RelV x u
 | _,_,_,_, .nil,e=>by simp at e
 | _,_,0,_, .cons r _,e=>by simp at e;subst e;exact⟨_,rfl,r⟩
 | _,_,i+1,x, .cons _ t,e=>by
  obtain⟨u,h1,h2⟩:=Vals.get (i:=i) (x:=x) t (by simpa using e);exact⟨u,by simpa using h1,h2⟩
theorem Vals.set{x:V}{u:Value}(r:RelV x u):∀{xs:List V}{us:List Value}(i:Nat),Vals xs us→Vals (xs.set i x) (us.set i u)
 | _,_,_, .nil=> .nil
 | _,_,0, .cons _ t=> .cons r t
 | _,_,i+1, .cons q t=> .cons q (Vals.set r i t)
theorem Vals.append:∀{xs ys:List V}{us ws:List Value},Vals xs us→Vals ys ws→Vals (xs++ys) (us++ws)
 | _,_,_,_, .nil,s=>s
 | _,_,_,_, .cons r t,s=> .cons r (Vals.append t s)
theorem Vals.take:∀{xs:List V}{us:List Value}(n:Nat),Vals xs us→Vals (xs.take n) (us.take n)
 | _,_,0,_=> .nil
 | _,_,_+1, .nil=> .nil
 | _,_,n+1, .cons r t=> .cons r (Vals.take n t)
theorem Vals.drop:∀{xs:List V}{us:List Value}(n:Nat),Vals xs us→Vals (xs.drop n) (us.drop n)
 | _,_,0,r=>r
 | _,_,_+1, .nil=> .nil
 | _,_,n+1, .cons _ t=>Vals.drop n t
def jz:Option V→Option Value→Prop
 |some v,some u=>RelV v u
 |none,none=>True
 | _,_=>False
def KV{κ:Type}:List (κ×V)→List (κ×Value)→Prop:=Paired fun(p:κ×V)(q:κ×Value)=>p.1=q.1∧RelV p.2 q.2
def kV:Key→V
 | .inl i=> .int i
 | .inr x=> .str x
inductive HO where
 |lst (xs:List V)
 |tup (xs:List V)
 |dK (kvs:List (Key×V))|dT (kvs:List (List Key×V))
 |set (S:Int→Bool) (n:Nat)
 |ins (C dx:Addr) (fs:List (Str×V))
 |own (x:Addr)
 |xd (fs:List (Str×V))
 |met (f x:Addr)
 |My (lo hi:Int)
 |qo (o:Obj) (u:HO)
 |DZ (ps:Array Value)
 |ext (φ:Heap→Prop)
abbrev Hp:=Addr→Option HO
def upd(H:Hp)(a:Addr)(o:HO):Hp:=fun b=>if b=a then some o else H b
theorem ae{H:Hp}{a:Addr}{o:HO}:upd H a o a=some o:=by unfold upd;rw[if_pos rfl]
theorem af{H:Hp}{a b:Addr}{o:HO}(h:b≠a):upd H a o b=H b:=by unfold upd;rw[Xk h]
theorem ft{H:Hp}{a:Addr}{o u:HO}:upd (upd H a o) a u=upd H a u:=by
 funext b;unfold upd;split<;>rfl
theorem hZ{H:Hp}{a b:Addr}{o u:HO}(h:H a=some o)(h':H b=some u)(d:o≠u):a≠b:=by
 intro e;subst e;rw[h]at h';exact d (Option.some.inj h')
theorem aB{H:Hp}{a b:Addr}{o:HO}(h:H a=some o)(h':H b=none):a≠b:=by
 intro e;subst e;rw[h]at h';cases h'
section
variable(P:Program)(w:World)
def cF(H:Hp)(h:Heap)(a:Addr):HO→Prop
 | .lst xs=>xs.length≤sizeLine∧∃(its:List Value)(n:Nat),Vals xs its∧h.get? a=some {cls:= .type "list",data:= .seq its.toArray n}
 | .tup xs=>xs.length≤sizeLine∧∃its:List Value,Vals xs its∧IsTup h a its.toArray
 | .dK kvs=>kvs.length≤sizeLine∧(a==sysModules)=false∧∃vs,KV kvs vs∧h.DictOf (cK P w) a vs
 | .dT kvs=>kvs.length≤sizeLine∧(a==sysModules)=false∧∃xs:List (List Key×Addr×Value),
   Paired (fun(p:List Key×V)(q:List Key×Addr×Value)=>p.1=q.1∧H q.2.1=some (.tup (p.1.map kV))∧RelV p.2 q.2.2) kvs xs∧
   ∃o es ep,h.get? a=some o∧o.ExactDict∧o.data= .dict es ep∧es.toList=xs.map (entryOfKey (tupleKind (cK P w)))∧(xs.map (·.1)).Nodup
 | .set S n=>h.SetOf (intKind P w) a S n
 | .ins C dx fs=>H dx=some (.own a)∧fs.length≤1000∧dx≠a∧h.get? a=some (PySem.W.instObj C dx)∧
   ∃mA,h.Ns1 dx mA∧(∀f,jz (fs.lookup f) (mA f))∧PySem.Within mA (fs.map (·.1))
 | .own _=>∃o,h.get? a=some o
 | .xd fs=>∃mA,h.Ns1 a mA∧∀f,jz (fs.lookup f) (mA f)
 | .My lo hi=>∃t u v,h.get? a=some {cls:= .type "range",data:= .fields #[.int lo t, .int hi u, .int 1 v]}
 | .qo o u=>h.get? a=some o∧cF H h a u
 | .DZ ps=>h.get? a=some {cls:= .none,data:= .fields ps}
 | .met f x=>h.get? a=some (PySem.W.methodObj (.ref f) (.ref x))
 | .ext φ=>φ h∧(∃o,h.get? a=some o)∧∀h1 h2:Heap,φ h1→(∀o,h1.get? a=some o→h2.get? a=some o)→φ h2
def kb(H:Hp)(h:Heap):Prop:=∀a o,H a=some o→cF P w H h a o
end
section
variable{P:Program}{w:World}{H H':Hp}{h h':Heap}{a:Addr}{o:HO}
theorem cF.lt(x:cF P w H h a o):a<h.objs.size:=by
 cases o with
 |lst xs=>obtain⟨_,_,_,_,e⟩:=x;exact Heap.lt_size e
 |tup xs=>obtain⟨_,_,_,p⟩:=x;exact p.lt
 |dK kvs=>obtain⟨_,_,_,_,o,_,_,e,_⟩:=x;exact Heap.lt_size e
 |dT kvs=>obtain⟨_,_,_,_,o,_,_,e,_⟩:=x;exact Heap.lt_size e
 |set S n=>obtain⟨o,_,_,_,e,_⟩:=x;exact Heap.lt_size e
 |ins C dx fs=>obtain⟨_,_,_,e,_⟩:=x;exact Heap.lt_size e
 |own y=>obtain⟨_,e⟩:=x;exact Heap.lt_size e
 |xd fs=>obtain⟨_,⟨_,_,_,e,_⟩,_⟩:=x;exact Heap.lt_size e
 |My lo hi=>obtain⟨_,_,_,e⟩:=x;exact Heap.lt_size e
 |qo ob u=>obtain⟨e,_⟩:=x;exact Heap.lt_size e
 |DZ ps=>exact Heap.lt_size (show h.get? a=some _ from x)
 |met f y=>exact Heap.lt_size (show h.get? a=some _ from x)
 |ext φ=>obtain⟨_,⟨_,e⟩,_⟩:=x;exact Heap.lt_size e
theorem Paired.G6{α β:Type}{F G:α→β→Prop}:∀{Kd:List α}{Ke:List β},Paired F Kd Ke→(∀a b,F a b→G a b)→Paired G Kd Ke
 | _,_, .nil,_=> .nil
 | _,_, .cons r t,f=> .cons (f _ _ r) (Paired.G6 t f)
theorem cF.t5(x:cF P w H h a o)(k:∀b u,(b=a∨H b=some (.own a))→h.get? b=some u→h'.get? b=some u)
  (ho:∀b,H b=some (.own a)→H' b=some (.own a)) (ht:∀b xs,H b=some (.tup xs)→H' b=some (.tup xs)):cF P w H' h' a o:=by
 induction o with
 |lst xs=>obtain⟨z,its,n,r,e⟩:=x;exact⟨z,its,n,r,k _ _ (.inl rfl) e⟩
 |tup xs=>obtain⟨z,its,r,ob,e,c⟩:=x;exact⟨z,its,r,ob,k _ _ (.inl rfl) e,c⟩
 |dK kvs=>obtain⟨z,y,vs,r,ob,es,ep,e,c⟩:=x;exact⟨z,y,vs,r,ob,es,ep,k _ _ (.inl rfl) e,c⟩
 |dT kvs=>
  obtain⟨z,y,xs,r,ob,es,ep,e,c⟩:=x;exact⟨z,y,xs,Paired.G6 r fun p q z=>⟨z.1,ht _ _ z.2.1,z.2.2⟩,ob,es,ep,k _ _ (.inl rfl) e,c⟩
 |set S n=>obtain⟨ob,es,ep,t,e,c⟩:=x;exact⟨ob,es,ep,t,k _ _ (.inl rfl) e,c⟩
 |ins C dx fs=>
  obtain⟨d,z,ne,e,mA,⟨od,es,ep,e2,c⟩,r⟩:=x;exact⟨ho _ d,z,ne,k _ _ (.inl rfl) e,mA,⟨od,es,ep,k _ _ (.inr d) e2,c⟩,r⟩
 |own y=>obtain⟨ob,e⟩:=x;exact⟨ob,k _ _ (.inl rfl) e⟩
 |xd fs=>obtain⟨mA,⟨od,es,ep,e,c⟩,r⟩:=x;exact⟨mA,⟨od,es,ep,k _ _ (.inl rfl) e,c⟩,r⟩
 |My lo hi=>obtain⟨t,u,v,e⟩:=x;exact⟨t,u,v,k _ _ (.inl rfl) e⟩
 |qo ob u ih=>obtain⟨e,q⟩:=x;exact⟨k _ _ (.inl rfl) e,ih q⟩
 |DZ ps=>
  have e:h.get? a=some {cls:= .none,data:= .fields ps}:=x;show h'.get? a=some {cls:= .none,data:= .fields ps};exact k a _ (.inl rfl) e
 |met f y=>
  have e:h.get? a=some (PySem.W.methodObj (.ref f) (.ref y)):=x;show h'.get? a=some (PySem.W.methodObj (.ref f) (.ref y));exact k a _ (.inl rfl) e
 |ext φ=>obtain⟨p,⟨o,e⟩,st⟩:=x;exact⟨st _ _ p fun o q=>k _ _ (.inl rfl) q,⟨o,k _ _ (.inl rfl) e⟩,st⟩
theorem kb.lt(x:kb P w H h)(e:H a=some o):a<h.objs.size:=(x a o e).lt
theorem kb.fresh(x:kb P w H h)(e:h.objs.size≤a):H a=none:=by
 cases q:H a with
 |none=>rfl
 |some u=>exact absurd (Nat.lt_of_lt_of_le (x.lt q) e) (Nat.lt_irrefl _)
theorem kb.kept(x:kb P w H h)(k:∀b u,h.get? b=some u→h'.get? b=some u):kb P w H h':=fun a o e=>
 (x a o e).t5 (fun b u _ q=>k b u q) (fun _ q=>q) fun _ _ q=>q
theorem kb.laid(x:kb P w H h)(k:∀b u,h.get? b=some u→h'.get? b=some u)(hp:h.objs.size≤a)(new:cF P w (upd H a o) h' a o):kb P w (upd H a o) h':=fun b u e=>by
 have hn:=x.fresh hp;by_cases hb:b=a
 ·subst hb;rw[ae]at e;cases e;exact new
 ·rw[af hb]at e;exact(x b u e).t5 (fun c v _ q=>k c v q) (fun c q=>by rw[af (aB q hn)];exact q) fun c xs q=>by rw[af (aB q hn)];exact q
end
def Rd(H:Hp)(a:Addr)(u:HO):Prop:=H a=some u∨∃o,H a=some (.qo o u)
theorem Rd.of{H:Hp}{a:Addr}{u:HO}(h:H a=some u):Rd H a u:= .inl h
theorem Rd.ok{P:Program}{w:World}{H:Hp}{h:Heap}{a:Addr}{u:HO}(r:Rd H a u)(x:kb P w H h):cF P w H h a u:=by
 rcases r with r|⟨o,r⟩
 ·exact x a u r
 ·obtain⟨_,q⟩:=x a _ r;exact q
def Kf:Option HO→Prop
 |some (.lst _)=>True
 |some (.dK _)=>True
 |some (.dT _)=>True
 |some (.set _ _)=>True
 |some (.ins _ _ _)=>True
 |some (.ext _)=>True
 | _=>False
section
variable{P:Program}{w:World}{H:Hp}{h h':Heap}{x e:Addr}{o':HO}
theorem kb.write(ok:kb P w H h)(mu:Kf (H x))(he:e=x∨H e=some (.own x))(k:∀b u,b≠e→h.get? b=some u→h'.get? b=some u)(JC:∃u,h'.get? e=some u)
  (new:cF P w (upd H x o') h' x o'):kb P w (upd H x o') h':=fun b u q=>by
 have Kg:∀c y,H c=some (.own y)→c≠x:=fun c y r z=>by subst z;rw[r]at mu;exact mu
 have N2:∀c xs,H c=some (.tup xs)→c≠x:=fun c xs r z=>by subst z;rw[r]at mu;exact mu
 by_cases hb:b=x
 ·subst hb;rw[ae]at q;cases q;exact new
 ·rw[af hb]at q;by_cases G7:b=e
  ·have q':H b=some (.own x):=by
    rcases he with z|z
    ·exact absurd (G7.trans z) hb
    ·rw[G7];exact z
   rw[q]at q';cases q';obtain⟨v,hv⟩:=JC;exact⟨v,by rw[G7];exact hv⟩
  ·refine(ok b u q).t5 (fun c v hc r=>k c v ?_ r) (fun c r=>by rw[af (Kg c b r)];exact r) fun c xs r=>by rw[af (N2 c xs r)];exact r
   rcases hc with rfl|hc
   ·exact G7
   ·rintro rfl;rcases he with z|z
    ·exact Kg c b hc z
    ·rw[hc]at z;cases z;exact hb rfl
end
structure Un(fs ex:List Addr)(H H':Hp)(h h':Heap):Prop where
 keep:∀b o,h.get? b=some o→H b=none→b∉fs→b∉ex→h'.get? b=some o
 slot:∀b o,h.get? b=some o→H b=none→b∈fs→b∉ex→∃sl,h'.get? b=some {o with slots:=sl}
 free:∀b o,h.get? b=some o→H b=none→b∉ex→H' b=none
 there:∀b o,h.get? b=some o→b∉ex→∃o',h'.get? b=some o'
 cw:∀b xs,H b=some (.tup xs)→H' b=some (.tup xs)
 mT:∀b o u,H b=some (.qo o u)→H' b=some (.qo o u)
 p4:∀b ps,H b=some (.DZ ps)→∃more,H' b=some (.DZ (ps++more))
section
variable{fs Tj ex Wh:List Addr}{H H1 H2:Hp}{h h1 h2 h':Heap}{a x e:Addr}{o:HO}
theorem Un.any(u:Un fs ex H H1 h h1){b:Addr}{ob:Obj}(q:h.get? b=some ob)(n:H b=none)(hx:b∉ex):∃sl,h1.get? b=some {ob with slots:=sl}:=by
 by_cases hb:b∈fs
 ·exact u.slot b ob q n hb hx
 ·exact⟨ob.slots,u.keep b ob q n hb hx⟩
theorem Un.kept(k:∀b u,h.get? b=some u→h'.get? b=some u):Un fs ex H H h h':=
 ⟨fun b ob q _ _ _=>k b ob q,fun b ob q _ _ _=>⟨ob.slots,k b ob q⟩,fun _ _ _ n _=>n,fun b ob q _=>⟨ob,k b ob q⟩,fun _ _ q=>q,fun _ _ _ q=>q,fun _ ps q=>⟨#[],by rw[q];simp⟩⟩
theorem Un.refl:Un fs ex H H h h:=Un.kept fun _ _ q=>q
theorem Un.laid(k:∀b u,h.get? b=some u→h'.get? b=some u)(hp:h.objs.size≤a)(hn:H a=none):Un fs ex H (upd H a o) h h' where
 keep:=fun b u q _ _ _=>k b u q
 slot:=fun b u q _ _ _=>⟨u.slots,k b u q⟩
 free:=fun b u q n _=>by rw[af (Nat.ne_of_lt (Nat.lt_of_lt_of_le (Heap.lt_size q) hp))];exact n
 there:=fun b u q _=>⟨u,k b u q⟩
 cw:=fun b xs q=>by rw[af (aB q hn)];exact q
 mT:=fun b u xs q=>by rw[af (aB q hn)];exact q
 p4:=fun b ps q=>⟨#[],by rw[af (aB q hn),q];simp⟩
theorem Un.write(mu:Kf (H x))(he:e=x∨H e=some (.own x))(k:∀b u,b≠e→h.get? b=some u→h'.get? b=some u)(JC:∃u,h'.get? e=some u):Un fs ex H (upd H x o) h h':=by
 have hx:∀b,H b=none→b≠x:=fun b n z=>by subst z;rw[n]at mu;exact mu
 have hb:∀b,H b=none→b≠e:=fun b n z=>by
  subst z;rcases he with r|r
  ·exact hx b n r
  ·rw[n]at r;cases r
 have hm:∀b u,H b=some u→¬Kf (some u)→b≠x:=fun b u q nm z=>by subst z;rw[q]at mu;exact nm mu
 refine⟨fun b u q n _ _=>k b u (hb b n) q,fun b u q n _ _=>⟨u.slots,k b u (hb b n) q⟩,fun b u q n _=>by rw[af (hx b n)];exact n,fun b u q _=>?_,
  fun b xs q=>by rw[af (hm b _ q fun z=>z)];exact q,fun b u xs q=>by rw[af (hm b _ q fun z=>z)];exact q,fun b ps q=>⟨#[],by rw[af (hm b _ q fun z=>z),q];simp⟩⟩
 by_cases G7:b=e
 ·subst G7;exact JC
 ·exact⟨u,k b u G7 q⟩
end
def Mz(h:Heap)(H:Hp):List Addr:=(List.range h.objs.size).filter fun a=>(H a).isSome
def t6(h:Heap)(H:Hp):Heap:=PySem.W.hideAll h (Mz h H)
theorem ZH(h:Heap)(H:Hp):(t6 h H).objs.size=h.objs.size:=PySem.W.hideAll_size _ _
theorem By{h:Heap}{H:Hp}{b:Addr}{o:Obj}(e:h.get? b=some o)(n:H b=none):(t6 h H).get? b=some o:=
 PySem.W.hideAll_get _ e fun hm=>by
  have q:(H b).isSome=true:=(List.mem_filter.mp hm).2;rw[n]at q;simp at q
theorem D0{h:Heap}{H:Hp}{b:Addr}{o:Obj}(e:(t6 h H).get? b=some o):h.get? b=some o∧H b=none:=by
 have e':h.get? b=some o:=PySem.W.of_hideAll (Mz h H) e;refine⟨e',?_⟩;cases q:H b with
 |none=>rfl
 |some x=>
  have hm:b∈Mz h H:=List.mem_filter.mpr ⟨List.mem_range.mpr (Heap.lt_size e'),by simp[q]⟩;have z:(t6 h H).get? b=none:=PySem.W.hideAll_none (Mz h H) hm;rw[z]at e;cases e
def D1(g h:Heap)(L:Addr):List (Addr×Obj):=(List.range h.objs.size).filterMap fun a=>if a=L∨(g.get? a).isSome=true then none else(h.get? a).map fun o=>(a,o)
def rest(g h:Heap)(L d:Addr):List (Addr×Obj):=(D1 g h L).filter fun p=>decide (p.1≠d)
structure Mod(K:PySem.W.Frag)(mg:Str→Option Value)(base:Heap):Prop where
 JD:K.In base
 glob:base.Ns mainGlobals mg
 blt:∃mb,base.Ns builtinsNs mb∧∀x:Str,x≠"__name__"→mb x=bootBuiltins x
 nolimit:base.NoLimit
structure Cx where
 prog:Program
 w:World
 K:PySem.W.Frag
 mg:Str→Option Value
 base:Heap
 A:Around
 N:List Str
 cU:Shared
 d8:Hp
 env:Env
 outer:List Env
 stack:List Env
 ex:List Addr
 fn:Str→Bool
 calm:Bool
 pn:List (Addr×Obj)
 xe:Value→Shared→Prop
def mQ(l:List Env):List Addr:=l.filterMap (·.frame)
abbrev Cx.fs(X:Cx):List Addr:=mQ X.outer
def N3(sc:Scope)(x:Str):Prop:=sc.names.lookup x=some .local∨sc.names.lookup x=some .cell∨sc.names.lookup x=some .free
def Loc(sc:Scope)(x:Str):Prop:=sc.names.lookup x=some .local∨sc.names.lookup x=some .cell
def Look(env:Env)(h:Heap)(m:Str→Option Value)(x:Str)(u:Value):Prop:=
 (env.kindOf x=some .local∧m x=some u)∨((env.kindOf x=some .cell∨env.kindOf x=some .free)∧∃c,env.cells.lookup x=some c∧h.IsCell c (some u))
structure Cx.Ok(X:Cx):Prop where
 mod:Mod X.K X.mg X.base
 kind:X.env.scope.kind= .function
 glob:X.env.globals=mainGlobals
 blt:X.env.builtins=builtinsNs
 above:X.cU.heap.objs.size≤X.env.locals
 inj:∀x y c,X.env.cells.lookup x=some c→X.env.cells.lookup y=some c→x=y
 has:∀x,(X.env.kindOf x=some .cell∨X.env.kindOf x=some .free)→∃c,X.env.cells.lookup x=some c
 N4:∀x c,X.fn x=true→X.env.cells.lookup x=some c→X.cU.heap.objs.size≤c
 hd:X.calm=true→X.A.handled=none
 frames:X.A.frames=some X.stack
 Q0:X.stack=X.outer∨(X.stack=X.env::X.outer∧X.env.frame=some X.env.locals)
 Wi:∀b∈X.ex,b≠X.env.locals∧∀x c,X.env.cells.lookup x=some c→c≠b
 bs:∀b o,X.base.get? b=some o→X.cU.heap.get? b=some o∧X.d8 b=none
 G8:X.base.objs.size≤X.cU.heap.objs.size
 G9:∀b o,X.base.get? b=some o→b∉X.ex
 Kh:∀b∈X.ex,b∉X.fs
 r_:X.cU.heap.FunFrames X.base X.outer
 Ki:∀b∈X.fs,X.d8 b=none
structure Inv(X:Cx)(pins:List (Addr×Obj))(σ:List (Option V))(H:Hp)(s:Shared):Prop where
 ok:X.Ok
 os:s.os=X.cU.os
 bare:AllBare s.gens
 base:Un X.fs X.ex X.d8 H X.cU.heap s.heap
 loc:∃m,s.heap.Ns X.env.locals m∧∀(i:Nat)(x:Str)(v:V),X.N[i]?=some x→σ[i]?=some (some v)→N3 X.env.scope x→∃u,RelV v u∧Look X.env s.heap m x u
 cell:∀x c,X.env.cells.lookup x=some c→∃v,s.heap.IsCell c v
 free:H X.env.locals=none
 lR:∀x c,X.env.cells.lookup x=some c→H c=none
 pin:∀p∈X.pn++pins,s.heap.get? p.1=some p.2∧H p.1=none∧p.1≠X.env.locals∧p.1∉X.fs∧∀v,p.2.data≠ .cell v
 bL:kb X.prog X.w H s.heap
 len:σ.length=X.N.length
section
variable{X:Cx}{pins:List (Addr×Obj)}{σ:List (Option V)}{H H':Hp}{s:Shared}{h':Heap}
theorem Cx.Ok.N5(ok:X.Ok){b:Addr}{o:Obj}(e:X.base.get? b=some o):b∉X.fs:=fun hb=>by
 have:=(ok.r_.mem hb).1;rw[e]at this;cases this
theorem Inv.bs(I:Inv X pins σ H s):∀b o,X.base.get? b=some o→s.heap.get? b=some o∧H b=none:=fun b o e=>
 ⟨I.base.keep b o (I.ok.bs b o e).1 (I.ok.bs b o e).2 (I.ok.N5 e) (I.ok.G9 b o e),I.base.free b o (I.ok.bs b o e).1 (I.ok.bs b o e).2 (I.ok.G9 b o e)⟩
theorem Inv.bk(I:Inv X pins σ H s):∀b o,X.base.get? b=some o→s.heap.get? b=some o:=fun b o e=>(I.bs b o e).1
theorem Inv.mod(I:Inv X pins σ H s):Mod X.K X.mg X.base:=I.ok.mod
theorem Inv.oC(I:Inv X pins σ H s):X.K.In s.heap:=I.ok.mod.JD.keeps I.bk
theorem Inv.lt(I:Inv X pins σ H s):X.env.locals<s.heap.objs.size:=let ⟨_,hn,_⟩:=I.loc;hn.lt
theorem Inv.sz(I:Inv X pins σ H s):X.cU.heap.objs.size≤s.heap.objs.size:=Nat.le_trans I.ok.above (Nat.le_of_lt I.lt)
theorem Inv.N6(I:Inv X pins σ H s){a:Addr}(h:s.heap.objs.size≤a):a∉X.fs:=fun hb=>by
 obtain⟨_,o,ho,_⟩:=I.ok.r_.mem hb;exact absurd (Nat.lt_of_lt_of_le (Heap.lt_size ho) (Nat.le_trans I.sz h)) (Nat.lt_irrefl _)
theorem Inv.G_(I:Inv X pins σ H s):∀x c,X.env.cells.lookup x=some c→c≠X.env.locals:=fun x c e z=>by
 obtain⟨v,o,ho,hd⟩:=I.cell x c e;obtain⟨m,⟨o',es,ep,Ha,JE,_⟩,_⟩:=I.loc;rw[z,Ha]at ho;cases ho;rw[JE]at hd;cases hd
theorem Inv.r_(I:Inv X pins σ H s):s.heap.FunFrames X.base X.outer:=by
 have all:∀(l:List Env),(∀b∈mQ l,b∈X.fs)→X.cU.heap.FunFrames X.base l→s.heap.FunFrames X.base l:=by
  intro l
  induction l with
  |nil=>intro _ _;trivial
  |cons env r ih=>
   intro hs hl;obtain⟨hk,⟨L,o,hf,hn,ho,hd⟩,hr⟩:=hl;have hL:L∈X.fs:=hs L (by unfold mQ;rw[List.filterMap_cons,hf];exact List.mem_cons_self);obtain⟨sl,e⟩:=I.base.slot L o ho (I.ok.Ki L hL) hL fun z=>I.ok.Kh L z hL
   exact⟨hk,⟨L,_,hf,hn,e,hd⟩,ih (fun b hb=>hs b (by unfold mQ;rw[List.filterMap_cons,hf];exact List.mem_cons_of_mem _ hb)) hr⟩
 exact all X.outer (fun _ hb=>hb) I.ok.r_
theorem Inv.stack(I:Inv X pins σ H s):s.heap.FunFrames X.base X.stack:=by
 rcases I.ok.Q0 with e|⟨e,hf⟩
 ·rw[e];exact I.r_
 ·rw[e];obtain⟨m,hn,_⟩:=I.loc;refine .cons (by rw[I.ok.kind];decide) hf hn ?_ I.r_;exact Heap.get?_none_of_le (Nat.le_trans I.ok.G8 I.ok.above)
theorem Inv.qB(I:Inv X pins σ H s):∀b∈mQ X.stack,b∈X.env.locals::X.fs:=fun b hb=>by
 rcases I.ok.Q0 with e|⟨e,hf⟩
 ·rw[e]at hb;exact List.mem_cons_of_mem _ hb
 ·rw[e]at hb;unfold mQ at hb;rw[List.filterMap_cons,hf]at hb;exact hb
theorem Inv.t8(I:Inv X pins σ H s):∀b∈mQ X.stack,H b=none:=fun b hb=>by
 rcases List.mem_cons.mp (I.qB b hb)with e|hb
 ·rw[e];exact I.free
 ·obtain⟨_,o,ho,_⟩:=I.ok.r_.mem hb;exact I.base.free b o ho (I.ok.Ki b hb) fun z=>I.ok.Kh b z hb
theorem Inv.step{g':Array GenState}{t':Nat}{d':Drawn}{ch:List Addr}(I:Inv X pins σ H s)
  (DL:∀b∈ch,(b∈X.ex∨X.cU.heap.objs.size≤b)∧b≠X.env.locals∧(∀x c,X.env.cells.lookup x=some c→c≠b)∧∀p∈X.pn++pins,p.1≠b)
  (keep:∀b o,b≠X.env.locals→b∉X.fs→b∉ch→s.heap.get? b=some o→H b=none→h'.get? b=some o)
  (slot:∀b o,b≠X.env.locals→b∈X.fs→b∉ch→s.heap.get? b=some o→H b=none→∃sl,h'.get? b=some {o with slots:=sl}) (free:∀b o,b∉ch→s.heap.get? b=some o→H b=none→H' b=none)
  (there:∀b o,b∉ch→s.heap.get? b=some o→∃o',h'.get? b=some o')
  (cw:∀b xs,H b=some (.tup xs)→H' b=some (.tup xs)) (mT:∀b o u,H b=some (.qo o u)→H' b=some (.qo o u)) (p4:∀b ps,H b=some (.DZ ps)→∃more,H' b=some (.DZ (ps++more)))
  (ns:∀m,s.heap.Ns X.env.locals m→h'.Ns X.env.locals m) (bL:kb X.prog X.w H' h') (hg:AllBare g'):
  Inv X pins σ H' {s with heap:=h',gens:=g',drawn:=d',toks:=t'}:=by
 have Q2:∀b o,X.cU.heap.get? b=some o→b≠X.env.locals:=fun b o e=>Nat.ne_of_lt (Nat.lt_of_lt_of_le (Heap.lt_size e) I.ok.above)
 have MA:∀b o,X.cU.heap.get? b=some o→b∉X.ex→b∉ch:=fun b o e hx hb=>by
  rcases(DL b hb).1 with z|z
  ·exact hx z
  ·exact absurd (Nat.lt_of_lt_of_le (Heap.lt_size e) z) (Nat.lt_irrefl _)
 have cellK:∀x c,X.env.cells.lookup x=some c→∀v,s.heap.IsCell c v→h'.IsCell c v:=fun x c e v ⟨o,ho,hd⟩=>by
  have Kj:c∉ch:=fun z=>(DL c z).2.2.1 x c e rfl
  by_cases hc:c∈X.fs
  ·obtain⟨sl,q⟩:=slot c o (I.G_ x c e) hc Kj ho (I.lR x c e);exact⟨_,q,hd⟩
  ·exact⟨o,keep c o (I.G_ x c e) hc Kj ho (I.lR x c e),hd⟩
 refine⟨I.ok,I.os,hg,⟨fun b o e n hb hx=>?_,fun b o e n hb hx=>?_,fun b o e n hx=>?_,fun b o e hx=>?_,fun b xs e=>cw b xs (I.base.cw b xs e),fun b o xs e=>mT b o xs (I.base.mT b o xs e),fun b ps e=>?_⟩,?_,fun x c e=>?_,?_,fun x c e=>?_,fun p hp=>?_,bL,I.len⟩
 ·exact keep b o (Q2 b o e) hb (MA b o e hx) (I.base.keep b o e n hb hx) (I.base.free b o e n hx)
 ·obtain⟨sl,e1⟩:=I.base.slot b o e n hb hx;obtain⟨N7,e2⟩:=slot b _ (Q2 b o e) hb (MA b o e hx) e1 (I.base.free b o e n hx);exact⟨N7,e2⟩
 ·obtain⟨o',e1⟩:=I.base.there b o e hx;exact free b o' (MA b o e hx) e1 (I.base.free b o e n hx)
 ·obtain⟨o',e1⟩:=I.base.there b o e hx;exact there b o' (MA b o e hx) e1
 ·obtain⟨m1,e1⟩:=I.base.p4 b ps e;obtain⟨m2,e2⟩:=p4 b _ e1;exact⟨m1++m2,by rw[e2,Array.append_assoc]⟩
 ·obtain⟨m,hn,hl⟩:=I.loc;refine⟨m,ns m hn,fun i x v e1 e2 e3=>?_⟩;obtain⟨u,r,l⟩:=hl i x v e1 e2 e3;refine⟨u,r,?_⟩;rcases l with l|⟨k,c,e,z⟩
  ·exact .inl l
  ·exact .inr ⟨k,c,e,cellK x c e _ z⟩
 ·obtain⟨v,z⟩:=I.cell x c e;exact⟨v,cellK x c e v z⟩
 ·obtain⟨m,⟨o,_,_,ho,_⟩,_⟩:=I.loc;exact free _ o (fun z=>(DL _ z).2.1 rfl) ho I.free
 ·obtain⟨v,o,ho,hd⟩:=I.cell x c e;exact free c o (fun z=>(DL c z).2.2.1 x c e rfl) ho (I.lR x c e)
 ·obtain⟨e,n,ne,nf,d⟩:=I.pin p hp;have Kj:p.1∉ch:=fun z=>(DL p.1 z).2.2.2 p hp rfl
  exact⟨keep p.1 p.2 ne nf Kj e n,free p.1 p.2 Kj e n,ne,nf,d⟩
theorem Inv.un{t':Nat}(I:Inv X pins σ H s)(u:Un X.fs [] H H' s.heap h')(bL:kb X.prog X.w H' h'):Inv X pins σ H' {s with heap:=h',toks:=t'}:=by
 obtain⟨m,⟨o,es,ep,ho,r⟩,_⟩:=id I.loc;obtain⟨sl,hL⟩:=u.any ho I.free Xr;exact I.step (g':=s.gens) (d':=s.drawn) (ch:=[]) (fun _ z=>nomatch z) (fun b o _ hb _ e n=>u.keep b o e n hb Xr) (fun b o _ hb _ e n=>u.slot b o e n hb Xr) (fun b o _ e n=>u.free b o e n (XA)) (fun b o _ e=>u.there b o e Xr) u.cw u.mT u.p4 (fun m' hm=>by
  obtain⟨o',XR,MB,Ha,r'⟩:=hm;rw[ho]at Ha;cases Ha;exact⟨_,XR,MB,hL,r'⟩) bL I.bare
theorem Inv.call{g':Array GenState}{t':Nat}{d':Drawn}{ch:List Addr}(I:Inv X pins σ H s)(u:Un (mQ X.stack) ch H H' s.heap h')(bL:kb X.prog X.w H' h')(hg:AllBare g')
  (DL:∀b∈ch,(b∈X.ex∨X.cU.heap.objs.size≤b)∧b≠X.env.locals∧(∀x c,X.env.cells.lookup x=some c→c≠b)∧∀p∈X.pn++pins,p.1≠b):
  Inv X pins σ H' {s with heap:=h',gens:=g',drawn:=d',toks:=t'}:=by
 obtain⟨m,⟨o,es,ep,ho,r⟩,_⟩:=id I.loc;obtain⟨sl,hL⟩:=u.any ho I.free fun z=>(DL _ z).2.1 rfl
 exact I.step (ch:=ch) DL (fun b o hL hb hc e n=>u.keep b o e n (fun z=>(List.mem_cons.mp (I.qB b z)).elim hL hb) hc) (fun b o _ _ hc e n=>u.any e n hc) (fun b o hc e n=>u.free b o e n hc) (fun b o hc e=>u.there b o e hc) u.cw u.mT u.p4 (fun m' hm=>by
  obtain⟨o',XR,MB,Ha,r'⟩:=hm;rw[ho]at Ha;cases Ha;exact⟨_,XR,MB,hL,r'⟩) bL hg
theorem Inv.turned{t':Nat}{it:Addr}(I:Inv X pins σ H s)(k:∀b o,b≠it→s.heap.get? b=some o→h'.get? b=some o)(hn:H it=none)(hL:it≠X.env.locals)
  (h1:it∈X.ex∨X.cU.heap.objs.size≤it) (h2:∀x c,X.env.cells.lookup x=some c→c≠it) (h3:∀p∈X.pn++pins,p.1≠it):Inv X pins σ H {s with heap:=h',toks:=t'}:=by
 have Fw:∀b u,H b=some u→b≠it:=fun b u e z=>by rw[z,hn]at e;cases e
 refine I.step (g':=s.gens) (d':=s.drawn) (ch:=[it]) (fun b hb=>?_) (fun b o _ _ hc e _=>k b o (fun z=>hc (by simp[z])) e) (fun b o _ _ hc e _=>⟨o.slots,k b o (fun z=>hc (by simp[z])) e⟩) (fun _ _ _ _ n=>n)
  (fun b o hc e=>⟨o,k b o (fun z=>hc (by simp[z])) e⟩) (fun _ _ e=>e) (fun _ _ _ e=>e) (fun b ps e=>⟨#[],by rw[e];simp⟩) (fun m hm=>?_) (fun b u e=>?_) I.bare
 ·have e:b=it:=by simpa using hb
  subst e;exact⟨h1,hL,h2,h3⟩
 ·obtain⟨o,es,ep,ho,r⟩:=hm;exact⟨o,es,ep,k _ o (Ne.symm hL) ho,r⟩
 ·refine(I.bL b u e).t5 (fun c v hc q=>k c v ?_ q) (fun _ q=>q) fun _ _ q=>q
  rcases hc with z|z
  ·rw[z];exact Fw b u e
  ·exact Fw c _ z
theorem Inv.tok(I:Inv X pins σ H s)(t:Nat):Inv X pins σ H {s with toks:=t}:=I.un (h':=s.heap) (t':=t) Un.refl I.bL
theorem Inv.kept{t':Nat}(I:Inv X pins σ H s)(k:∀b u,s.heap.get? b=some u→h'.get? b=some u):Inv X pins σ H {s with heap:=h',toks:=t'}:=I.un (Un.kept k) (I.bL.kept k)
theorem Inv.laid{a:Addr}{o:HO}{t':Nat}(I:Inv X pins σ H s)(k:∀b u,s.heap.get? b=some u→h'.get? b=some u)(hp:s.heap.objs.size≤a)(new:cF X.prog X.w (upd H a o) h' a o):
  Inv X pins σ (upd H a o) {s with heap:=h',toks:=t'}:=I.un (Un.laid k hp (I.bL.fresh hp)) (I.bL.laid k hp new)
theorem Inv.write{x e:Addr}{o:HO}{t':Nat}(I:Inv X pins σ H s)(mu:Kf (H x))(he:e=x∨H e=some (.own x))(k:∀b u,b≠e→s.heap.get? b=some u→h'.get? b=some u)(JC:∃u,h'.get? e=some u)
  (new:cF X.prog X.w (upd H x o) h' x o):Inv X pins σ (upd H x o) {s with heap:=h',toks:=t'}:=I.un (Un.write mu he k JC) (I.bL.write mu he k JC new)
theorem Inv.Yk{Fx:List (Addr×Obj)}(I:Inv X pins σ H s)(h:∀p∈Fx,s.heap.get? p.1=some p.2∧H p.1=none∧p.1≠X.env.locals∧p.1∉X.fs∧∀v,p.2.data≠ .cell v):Inv X Fx σ H s:=
 ⟨I.ok,I.os,I.bare,I.base,I.loc,I.cell,I.free,I.lR,fun p hp=>(List.mem_append.mp hp).elim (fun z=>I.pin p (List.mem_append_left _ z)) (h p),I.bL,I.len⟩
theorem vR{N:List Str}(hN:N.Nodup){i j:Nat}{x:Str}(a:N[i]?=some x)(b:N[j]?=some x):i=j:=by
 obtain⟨h1,e1⟩:=Xd a;obtain⟨h2,e2⟩:=Xd b;exact(List.getElem_inj hN).mp (e1.trans e2.symm)
theorem tf{M:Model}{A:Around}{E:Value→Shared→Prop}{i:Nat}{x:Str}{v:V}{u:Value}{Q:Unit→Shared→Prop}(I:Inv X pins σ H s)(hN:X.N.Nodup)(hi:X.N[i]?=some x)(hx:Loc X.env.scope x)(r:RelV v u)
  (h:∀s',Inv X pins (σ.set i (some v)) H s'→(∃a,Heap.SameBut a s.heap s'.heap∧(a=X.env.locals∨X.env.cells.lookup x=some a))→Q () s') (hf:X.fn x=true∨X.env.scope.names.lookup x=some .local:=by first|exact .inl rfl|exact .inr rfl|assumption):wpAny M A (storeName X.env x u) Q E s:=by
 obtain⟨m,hn,hl⟩:=id I.loc;have N8:(X.env.scope.kind== .class||(X.env.scope.kind== .module&&X.env.locals !=X.env.globals))=false:=by rw[I.ok.kind];rfl
 have Kk:i<σ.length:=by rw[I.len];exact(Xd hi).1
 have G_:=I.G_;have tracked:∀{a:Addr}{h':Heap},(∃o,s.heap.get? a=some o∧H a=none)→Heap.SameBut a s.heap h'→kb X.prog X.w H h':=fun{a h'} ha hs b ob e=>by
  obtain⟨_,_,Y1⟩:=ha;refine(I.bL b ob e).t5 (fun c w' hc q=>(hs.2 c ?_).trans q) (fun _ q=>q) fun _ _ q=>q
  rintro rfl;rcases hc with rfl|hc
  ·rw[Y1]at e;cases e
  ·rw[Y1]at hc;cases hc
 rcases hx with hk|hk
 ·refine wpAny_storeName_local hk hn (fun h' Bz hs=>?_) N8;obtain⟨oL,_,_,Fy,_⟩:=id hn;refine h _ ⟨I.ok,I.os,I.bare,⟨fun b o e n hb hx=>?_,fun b o e n hb hx=>?_,I.base.free,fun b o e hx=>?_,I.base.cw,I.base.mT,I.base.p4⟩,⟨_,Bz,fun j y v' e1 e2 e3=>?_⟩,fun y c e=>?_,I.free,I.lR,fun p hp=>?_,tracked ⟨oL,Fy,I.free⟩ hs,by simpa using I.len⟩ ⟨_,hs, .inl rfl⟩
  ·exact(hs.2 b (Nat.ne_of_lt (Nat.lt_of_lt_of_le (Heap.lt_size e) I.ok.above))).trans (I.base.keep b o e n hb hx)
  ·obtain⟨sl,e1⟩:=I.base.slot b o e n hb hx;exact⟨sl,(hs.2 b (Nat.ne_of_lt (Nat.lt_of_lt_of_le (Heap.lt_size e) I.ok.above))).trans e1⟩
  ·obtain⟨o',e1⟩:=I.base.there b o e hx;exact⟨o',(hs.2 b (Nat.ne_of_lt (Nat.lt_of_lt_of_le (Heap.lt_size e) I.ok.above))).trans e1⟩
  ·by_cases hj:j=i
   ·subst hj;rw[hi]at e1;cases e1;rw[List.getElem?_set_self Kk]at e2;cases e2;exact⟨u,r, .inl ⟨hk,XA⟩⟩
   ·rw[List.getElem?_set_ne (Ne.symm hj)]at e2;obtain⟨u',r',q⟩:=hl j y v' e1 e2 e3;refine⟨u',r',?_⟩;rcases q with⟨k,e⟩|⟨k,c,e,z⟩
    ·refine .inl ⟨k,?_⟩;have:y≠x:=fun e=>hj (vR hN e1 (e▸hi))
     simp[this,e]
    ·exact .inr ⟨k,c,e,z.sameBut hs (G_ y c e)⟩
  ·obtain⟨w',z⟩:=I.cell y c e;exact⟨w',z.sameBut hs (G_ y c e)⟩
  ·obtain⟨e,n,ne,nf,d⟩:=I.pin p hp;exact⟨(hs.2 p.1 ne).trans e,n,ne,nf,d⟩
 ·have Kl:X.fn x=true:=by
   rcases hf with z|z
   ·exact z
   ·rw[z]at hk;cases hk
  obtain⟨c,hc⟩:=I.ok.has x (.inl hk);obtain⟨w',z⟩:=I.cell x c hc;refine wpAny_storeName_cell I.ok.kind hk hc z (fun h' Hb hs=>?_);obtain⟨oc,Q3,N9⟩:=id z;refine h {s with heap:=h'} ⟨I.ok,I.os,I.bare,⟨fun b o e n hb hx=>?_,fun b o e n hb hx=>?_,I.base.free,fun b o e hx=>?_,I.base.cw,I.base.mT,I.base.p4⟩,⟨m,hn.sameBut hs (Ne.symm (G_ x c hc)),fun j y v' e1 e2 e3=>?_⟩,fun y c' e=>?_,I.free,I.lR,fun p hp=>?_,tracked ⟨oc,Q3,I.lR x c hc⟩ hs,by simpa using I.len⟩ ⟨c,hs, .inr hc⟩
  ·exact(hs.2 b (Nat.ne_of_lt (Nat.lt_of_lt_of_le (Heap.lt_size e) (I.ok.N4 x c Kl hc)))).trans (I.base.keep b o e n hb hx)
  ·obtain⟨sl,e1⟩:=I.base.slot b o e n hb hx;exact⟨sl,(hs.2 b (Nat.ne_of_lt (Nat.lt_of_lt_of_le (Heap.lt_size e) (I.ok.N4 x c Kl hc)))).trans e1⟩
  ·obtain⟨o',e1⟩:=I.base.there b o e hx;exact⟨o',(hs.2 b (Nat.ne_of_lt (Nat.lt_of_lt_of_le (Heap.lt_size e) (I.ok.N4 x c Kl hc)))).trans e1⟩
  ·by_cases hj:j=i
   ·subst hj;rw[hi]at e1;cases e1;rw[List.getElem?_set_self Kk]at e2;cases e2;exact⟨u,r, .inr ⟨.inl hk,c,hc,Hb⟩⟩
   ·rw[List.getElem?_set_ne (Ne.symm hj)]at e2;obtain⟨u',r',q⟩:=hl j y v' e1 e2 e3;refine⟨u',r',?_⟩;rcases q with q|⟨k,c',e,z'⟩
    ·exact .inl q
    ·refine .inr ⟨k,c',e,z'.sameBut hs ?_⟩;rintro rfl;exact hj (vR hN e1 (I.ok.inj _ _ _ e hc▸hi))
  ·by_cases Q4:c'=c
   ·subst Q4;exact⟨_,Hb⟩
   ·obtain⟨w2,z2⟩:=I.cell y c' e;exact⟨w2,z2.sameBut hs Q4⟩
  ·obtain⟨e,n,ne,nf,d⟩:=I.pin p hp;refine⟨(hs.2 p.1 ?_).trans e,n,ne,nf,d⟩;intro q;rw[q,Q3]at e;have q':oc=p.2:=Option.some.inj e;exact d w' (by rw[←q'];exact N9)
theorem vS{M:Model}{A:Around}{E:Value→Shared→Prop}{i:Nat}{x:Str}{v:V}{u:Value}{Q:Unit→Shared→Prop}(I:Inv X pins σ H s)(hN:X.N.Nodup)(hi:X.N[i]?=some x)(hx:Loc X.env.scope x)(r:RelV v u)
  (h:∀s',Inv X pins (σ.set i (some v)) H s'→Q () s') (hf:X.fn x=true∨X.env.scope.names.lookup x=some .local:=by first|exact .inl rfl|exact .inr rfl|assumption):wpAny M A (storeName X.env x u) Q E s:=
 tf I hN hi hx r (fun s' I' _=>h s' I') hf
theorem Inv.Km{s':Shared}{ch:List Addr}(I:Inv X pins σ H s)(ho:s'.os=s.os)(u:Un (mQ X.stack) ch H H' s.heap s'.heap)(bL:kb X.prog X.w H' s'.heap)(hg:AllBare s'.gens)
  (DL:∀b∈ch,(b∈X.ex∨X.cU.heap.objs.size≤b)∧b≠X.env.locals∧(∀x c,X.env.cells.lookup x=some c→c≠b)∧∀p∈X.pn++pins,p.1≠b):Inv X pins σ H' s':=by
 obtain⟨h',g',d',t',o'⟩:=s';have e:o'=s.os:=ho;subst e;exact I.call (g':=g') (t':=t') (d':=d') u bL hg DL
end
abbrev XK:=Value→Option Addr→Hp→Prop
abbrev St:=List (Option V)
abbrev VK:=V→Hp→Prop
abbrev TE:=St→Hp→VK→Prop
abbrev TT:=St→Hp→(Bool→Hp→Prop)→Prop
abbrev TA:=St→Hp→(List V→Hp→Prop)→Prop
structure Ends where
 nx:St→Hp→Prop
 rt:VK
 bk:St→Hp→Prop:=fun _ _=>False
 ct:St→Hp→Prop:=fun _ _=>False
abbrev TS:=Ends→St→Hp→Prop
def EP(X:Cx)(pins:List (Addr×Obj))(σ:St)(Q:VK)(u:Value)(s':Shared):Prop:=∃v H',Inv X pins σ H' s'∧RelV v u∧Q v H'
def TP(X:Cx)(pins:List (Addr×Obj))(σ:St)(Q:Bool→Hp→Prop)(b:Bool)(s':Shared):Prop:=∃H',Inv X pins σ H' s'∧Q b H'
def AP(X:Cx)(pins:List (Addr×Obj))(σ:St)(Q:List V→Hp→Prop)(us:List Value)(s':Shared):Prop:=∃vs H',Inv X pins σ H' s'∧Vals vs us∧Q vs H'
def SP(X:Cx)(pins:List (Addr×Obj))(D:Ends)(f:Flow)(s':Shared):Prop:=
 match f with
 | .next=>∃bo H',Inv X pins bo H' s'∧D.nx bo H'
 | .brk=>∃bo H',Inv X pins bo H' s'∧D.bk bo H'
 | .cont=>∃bo H',Inv X pins bo H' s'∧D.ct bo H'
 | .ret u=>∃v bo H',Inv X pins bo H' s'∧RelV v u∧D.rt v H'
def PE(X:Cx)(e:Expr)(t:TE):Prop:=
 ∀(pins:List (Addr×Obj))(s:Shared)(σ:St)(H:Hp)(Q:VK),Inv X pins σ H s→t σ H Q→wpAny (model X.prog X.w) X.A (eval e X.env) (EP X pins σ Q) X.xe s
def PT(X:Cx)(e:Expr)(t:TT):Prop:=
 ∀(pins:List (Addr×Obj))(s:Shared)(σ:St)(H:Hp)(Q:Bool→Hp→Prop),Inv X pins σ H s→t σ H Q→wpAny (model X.prog X.w) X.A (isTrue e X.env (eval e X.env)) (TP X pins σ Q) X.xe s
def PW(X:Cx)(e:Expr)(t:TT):Prop:=
 ∀(whole:Sem Value)(pins:List (Addr×Obj))(s:Shared)(σ:St)(H:Hp)(Q:Bool→Hp→Prop),Inv X pins σ H s→t σ H Q→wpAny (model X.prog X.w) X.A (isTrue e X.env whole) (TP X pins σ Q) X.xe s
theorem PW.pt{X:Cx}{e:Expr}{t:TT}(h:PW X e t):PT X e t:=h _
def PA(X:Cx)(es:List Expr)(t:TA):Prop:=
 ∀(pos:Pos)(pins:List (Addr×Obj))(s:Shared)(σ:St)(H:Hp)(Q:List V→Hp→Prop),Inv X pins σ H s→t σ H Q→wpAny (model X.prog X.w) X.A (spliced (backTo pos (starEach es X.env))) (AP X pins σ Q) X.xe s
def PS(X:Cx)(st:Stmt)(t:TS):Prop:=
 ∀(pins:List (Addr×Obj))(s:Shared)(σ:St)(H:Hp)(D:Ends),Inv X pins σ H s→t D σ H→wpAny (model X.prog X.w) X.A (exec st X.env) (SP X pins D) X.xe s
def Aa(X:Cx)(st:List Stmt)(t:TS):Prop:=
 ∀(pins:List (Addr×Obj))(s:Shared)(σ:St)(H:Hp)(D:Ends),Inv X pins σ H s→t D σ H→wpAny (model X.prog X.w) X.A (execs st X.env) (SP X pins D) X.xe s
theorem cj{α:Type}{t:Sem α}{Q Q':α→Shared→Prop}{M:Model}{A:Around}{E:Value→Shared→Prop}{s:Shared}(h:wpAny M A t Q E s)(hQ:∀a s,Q a s→Q' a s):wpAny M A t Q' E s:=wpAny_mono h hQ fun _ _ x=>x
section
variable{X:Cx}
theorem bin{a b:Expr}{ta tb:TE}(ha:PE X a ta)(hb:PE X b tb){pins:List (Addr×Obj)}{s:Shared}{σ:St}{H:Hp}{R:V→V→Hp→Prop}(I:Inv X pins σ H s)(h:ta σ H fun x H1=>tb σ H1 fun y H2=>R x y H2)
  {α:Type} {Q:α→Shared→Prop} {f:Value→Value→Sem α}
  (hf:∀v u s2 x y H2,Inv X pins σ H2 s2→RelV x v→RelV y u→R x y H2→wpAny (model X.prog X.w) X.A (f v u) Q X.xe s2):
  wpAny (model X.prog X.w) X.A (eval a X.env) (fun v bT=>wpAny (model X.prog X.w) X.A (eval b X.env) (fun u oE=>wpAny (model X.prog X.w) X.A (f v u) Q X.xe oE) X.xe bT) X.xe s:=by
 refine cj (ha pins s σ H _ I h) fun v s1 ⟨x,H1,I1,r1,q1⟩=>?_
 refine cj (hb pins s1 σ H1 _ I1 q1) fun u s2 ⟨y,H2,I2,r2,q2⟩=>?_
 exact hf v u s2 x y H2 I2 r1 r2 q2
inductive Hd(i:Nat)(σ:St)(H:Hp)(Q:VK):Prop
 |mk (v:_) (_:σ[i]?=some (some v)) (_:Q v H):Hd i σ H Q
def tC(v:V):TE:=fun _ H Q=>Q v H
theorem He{i:Nat}{x:Str}{pos:Pos}(hN:X.N[i]?=some x)(hv:N3 X.env.scope x)(hd:(x==("__debug__":Str))=false:=by decide)(Ab:(x==("__classdict__":Str))=false:=by decide):PE X (.Name x pos) (Hd i):=by
 intro pins s σ H Q I h;obtain⟨v,e,h⟩:=h;obtain⟨m,hn,hl⟩:=I.loc;obtain⟨u,r,l⟩:=hl i x v hN e hv;have fin:EP X pins σ Q u s:=⟨v,H,I,r,h⟩
 rcases l with⟨hk,hm⟩|⟨hk,c,hc,Fz⟩
 ·exact wpAny_Name (wpAny_loadName_local I.ok.kind hk hn hm fin) hd
 ·rcases hk with hk|hk
  ·exact wpAny_Name (wpAny_loadName_cell I.ok.kind hk hc Fz fin) hd
  ·exact wpAny_Name (wpAny_loadName_free I.ok.kind hk hc Fz fin Ab) hd
theorem aj{i j pos}:PE X (.Constant (.int i) j pos) (tC (.int i)):=fun _ _ _ H _ I h=>wpAny_Constant_int ⟨.int i,H,I.tok _,⟨_,rfl⟩,h⟩
theorem gR{b j pos}:PE X (.Constant (.bool b) j pos) (tC (.bl b)):=fun _ _ _ H _ I h=>Constant_bool ⟨.bl b,H,I,rfl,h⟩
theorem jA{j pos}:PE X (.Constant .none j pos) (tC .cD):=fun _ _ _ H _ I h=>Constant_none ⟨.cD,H,I,rfl,h⟩
theorem c7{x j pos}:PE X (.Constant (.str x) j pos) (tC (.str x)):=fun _ _ _ H _ I h=>Calls.Constant_str ⟨.str x,H,I.tok _,⟨_,rfl⟩,h⟩
def Gl(X:Cx)(x:Str):Prop:=X.env.kindOf x=some .globalImplicit
theorem mU{E:Value→Shared→Prop}{pins:List (Addr×Obj)}{s:Shared}{σ:St}{H:Hp}{x:Str}{u:Value}{pos:Pos}{Q:Value→Shared→Prop}(I:Inv X pins σ H s)(hg:Gl X x)(hm:X.mg x=some u)(h:Q u s)
  (hd:(x==("__debug__":Str))=false:=by decide):wpAny (model X.prog X.w) X.A (eval (.Name x pos) X.env) Q E s:=
 Calls.Name_function_global I.ok.kind hg (Calls.loadGlobal_global (by rw[I.ok.glob];exact I.mod.glob.keeps I.bk) hm h) hd
theorem kg{E:Value→Shared→Prop}{pins:List (Addr×Obj)}{s:Shared}{σ:St}{H:Hp}{x:Str}{u:Value}{pos:Pos}{Q:Value→Shared→Prop}(I:Inv X pins σ H s)(hg:Gl X x)(hm:X.mg x=none)(hv:bootBuiltins x=some u)(h:Q u s)
  (hn:x≠"__name__":=by decide) (hd:(x==("__debug__":Str))=false:=by decide):wpAny (model X.prog X.w) X.A (eval (.Name x pos) X.env) Q E s:=by
 obtain⟨mb,h1,h2⟩:=I.mod.blt;exact Calls.Name_function_global I.ok.kind hg (Calls.loadGlobal_builtin (by rw[I.ok.glob];exact I.mod.glob.keeps I.bk) hm (by rw[I.ok.blt];exact h1.keeps I.bk) ((h2 x hn).trans hv) h) hd
theorem YZ{x:Str}{v:V}{u:Value}{pos:Pos}(hg:Gl X x)(hm:X.mg x=some u)(r:RelV v u)(hd:(x==("__debug__":Str))=false:=by decide):PE X (.Name x pos) (tC v):=
 fun _ _ _ H _ I h=>mU I hg hm ⟨v,H,I,r,h⟩ hd
theorem jB{x:Str}{v:V}{u:Value}{pos:Pos}(hg:Gl X x)(hm:X.mg x=none)(hv:bootBuiltins x=some u)(r:RelV v u)(hn:x≠"__name__":=by decide)(hd:(x==("__debug__":Str))=false:=by decide):PE X (.Name x pos) (tC v):=
 fun _ _ _ H _ I h=>kg I hg hm hv ⟨v,H,I,r,h⟩ hn hd
variable{a b:Expr}{ta tb:TE}{pos:Pos}
def PC(X:Cx)(op:CmpOp)(a b:Expr)(t:TE):Prop:=
 ∀(pins:List (Addr×Obj))(s:Shared)(σ:St)(H:Hp)(Q:VK),Inv X pins σ H s→t σ H Q→
  wpAny (model X.prog X.w) X.A (eval a X.env) (fun v bT=>wpAny (model X.prog X.w) X.A (eval b X.env) (fun u oE=>wpAny (model X.prog X.w) X.A (compareOp op v u) (EP X pins σ Q) X.xe oE) X.xe bT) X.xe s
theorem bH(b:Expr){op:CmpOp}(h:op≠ .In)(h2:op≠ .NotIn):behindInMarks op b=false:=by
 have e1:(op==CmpOp.In)=false:=by cases op<;>first|rfl|exact absurd rfl h
 have e2:(op==CmpOp.NotIn)=false:=by cases op<;>first|rfl|exact absurd rfl h2
 cases b<;>simp[behindInMarks,e1,e2]
def N_(ta:TE):TE:=fun σ H Q=>ta σ H fun x H1=>Q (.bl (decide (x= .cD))) H1
def Kn(ta:TE):TE:=fun σ H Q=>ta σ H fun x H1=>Q (.bl (!decide (x= .cD))) H1
theorem RelV.vT{x:V}{v:Value}(r:RelV x v):(v==Value.none)=decide (x= .cD):=by
 cases x with
 |cD=>cases r;rfl
 |bl _=>cases r;rfl
 |int _=>obtain⟨t,rfl⟩:=r;rfl
 |str _=>obtain⟨t,rfl⟩:=r;rfl
 |XS _=>obtain⟨t,rfl⟩:=r;rfl
 |Fv _=>obtain⟨t,rfl⟩:=r;rfl
 |ref _=>cases r;rfl
 |ty _=>cases r;rfl
theorem oF{j pos'}(ha:PE X a ta):PC X .Is a (.Constant .none j pos') (N_ ta):=by
 intro pins s σ H Q I h;refine cj (ha pins s σ H _ I h) fun v s1 ⟨x,H1,I1,r1,q1⟩=>?_
 exact Constant_none (is_none_gen ⟨.bl _,H1,I1,by rw[r1.vT];rfl,q1⟩)
theorem qp{j pos'}(ha:PE X a ta):PC X .IsNot a (.Constant .none j pos') (Kn ta):=by
 intro pins s σ H Q I h;refine cj (ha pins s σ H _ I h) fun v s1 ⟨x,H1,I1,r1,q1⟩=>?_
 exact Constant_none (isnot_none_gen ⟨.bl _,H1,I1,by rw[r1.vT];rfl,q1⟩)
inductive Ko(x:V)(H:Hp)(Q:Bool→Hp→Prop):Prop
 |mk (c:Bool) (_:x= .bl c) (_:Q c H):Ko x H Q
def tB(t:TE):TT:=fun σ H Q=>t σ H fun x H1=>Ko x H1 Q
theorem xA{op:CmpOp}{t:TE}(h:PC X op a b t)(h1:behindInMarks op b=false:=by first|exact bH _ (Xy) (Xy)|rfl):PE X (.Compare a [op] [b] pos) t:=fun pins s σ H Q I hw=>wpAny_Compare1 (h pins s σ H Q I hw) h1
theorem f7{op:CmpOp}{t:TE}(h:PC X op a b t)(h1:behindInMarks op b=false:=by first|exact bH _ (Xy) (Xy)|rfl):PT X (.Compare a [op] [b] pos) (tB t):=by
 intro pins s σ H Q I hw;refine wpAny_isTrue_Compare1 (cj (h pins s σ H _ I hw) fun v s1 h1=>cj h1 fun u s2 h2=>cj h2 fun c s3 ⟨x,H1,I1,r1,q1⟩=>?_) h1;obtain⟨d,rfl,q⟩:=q1;cases r1;exact wpAny_truthy_bool ⟨H1,I1,q⟩
theorem cx{e:Expr}{t:TE}(h:PE X e t)(he:∀whole,isTrue e X.env whole=(do let v←whole;standAt e.pos;holding [v] (truthy v)):=by intro _;rfl):PT X e (tB t):=by
 intro pins s σ H Q I hw;refine isTrue_plain (cj (h pins s σ H _ I hw) fun v s1 ⟨x,H1,I1,r1,q1⟩=>?_) (he _);obtain⟨d,rfl,q⟩:=q1;cases r1;exact wpAny_truthy_bool ⟨H1,I1,q⟩
variable{tA MD:TT}{rest:List Expr}
def Oa(t u:TT):TT:=fun σ H Q=>t σ H fun c H1=>if c=true then u σ H1 Q else Q false H1
def Tn(t u:TT):TT:=fun σ H Q=>t σ H fun c H1=>if c=true then Q true H1 else u σ H1 Q
def Ob(t:TT):TT:=fun σ H Q=>t σ H fun c H1=>Q (!c) H1
theorem pw_and1(ha:PT X a tA):PW X (.BoolOp .And [a] pos) tA:=by
 intro wh pins s σ H Q I h;refine isTrue_and (cj (ha pins s σ H Q I h) fun c s1 e=>?_);cases c with
 |true=>exact isTrue_and_nil e
 |false=>exact e
theorem pw_or1(ha:PT X a tA):PW X (.BoolOp .Or [a] pos) tA:=by
 intro wh pins s σ H Q I h;refine isTrue_or (cj (ha pins s σ H Q I h) fun c s1 e=>?_);cases c with
 |false=>exact isTrue_or_nil e
 |true=>exact e
theorem pw_and(ha:PT X a tA)(hb:PW X (.BoolOp .And (b::rest) pos) MD):PW X (.BoolOp .And (a::b::rest) pos) (Oa tA MD):=by
 intro wh pins s σ H Q I h;refine isTrue_and (cj (ha pins s σ H _ I h) fun c s1 ⟨H1,I1,q1⟩=>?_);cases c with
 |true=>exact hb wh pins s1 σ H1 Q I1 q1
 |false=>exact⟨H1,I1,q1⟩
theorem pw_or(ha:PT X a tA)(hb:PW X (.BoolOp .Or (b::rest) pos) MD):PW X (.BoolOp .Or (a::b::rest) pos) (Tn tA MD):=by
 intro wh pins s σ H Q I h;refine isTrue_or (cj (ha pins s σ H _ I h) fun c s1 ⟨H1,I1,q1⟩=>?_);cases c with
 |true=>exact⟨H1,I1,q1⟩
 |false=>exact hb wh pins s1 σ H1 Q I1 q1
theorem dw(ha:PT X a tA):PT X (.UnaryOp .Not a pos) (Ob tA):=by
 intro pins s σ H Q I h;exact isTrue_not (ha pins s σ H (fun c H1=>Q (!c) H1) I h)
def Kq(ta tb:TE):TE:=fun σ H Q=>ta σ H fun x H1=>∃c,x= .bl c∧if c=true then tb σ H1 Q else Q (.bl false) H1
def Kr(ta:TE):TE:=fun σ H Q=>ta σ H fun x H1=>∃c,x= .bl c∧Q (.bl (!c)) H1
theorem t9{op}{t:TE}(h:PE X a t):PE X (.BoolOp op [a] pos) t:=fun pins s σ H Q I hw=>BoolOp_one (h pins s σ H Q I hw)
theorem t_(ha:PE X a ta)(hb:PE X (.BoolOp .And (b::rest) pos) tb):PE X (.BoolOp .And (a::b::rest) pos) (Kq ta tb):=by
 intro pins s σ H Q I h;refine BoolOp_and (cj (ha pins s σ H _ I h) fun v s1 ⟨x,H1,I1,r1,q1⟩=>?_);obtain⟨c,rfl,q1⟩:=q1;cases r1;refine wpAny_truthy_bool ?_;cases c with
 |true=>exact hb pins s1 σ H1 Q I1 q1
 |false=>exact⟨.bl false,H1,I1,rfl,q1⟩
theorem Hf(ha:PE X a ta):PE X (.UnaryOp .Not a pos) (Kr ta):=by
 intro pins s σ H Q I h;refine UnaryOp_ (cj (ha pins s σ H _ I h) fun v s1 ⟨x,H1,I1,r1,q1⟩=>?_);obtain⟨c,rfl,q1⟩:=q1;cases r1;exact not_of (wpAny_truthy_bool ⟨.bl (!c),H1,I1,rfl,q1⟩)
def To(t:TT)(ta tb:TE):TE:=fun σ H Q=>t σ H fun c H1=>if c=true then ta σ H1 Q else tb σ H1 Q
theorem mV{c:Expr}(hc:PT X c tA)(ha:PE X a ta)(hb:PE X b tb):PE X (.IfExp c a b pos) (To tA ta tb):=by
 intro pins s σ H Q I h;refine wpAny_IfExp (cj (hc pins s σ H _ I h) fun d s1 ⟨H1,I1,q1⟩=>?_);cases d with
 |true=>exact ha pins s1 σ H1 Q I1 q1
 |false=>exact hb pins s1 σ H1 Q I1 q1
end
def iF(K:PySem.W.Frag)(H:Hp)(a:Addr)(xs:List V):Prop:=
 Rd H a (.lst xs)∨
  ∃(o:Obj)(its:Array Value)(n:Nat),K.lookup a=some o∧o.cls= .type "list"∧o.dict=none∧o.data= .seq its n∧its.size≤sizeLine∧Vals xs its.toList
def BB(K:PySem.W.Frag)(H:Hp)(a:Addr)(xs:List V):Prop:=
 Rd H a (.tup xs)∨
  ∃(o:Obj)(its:Array Value)(n:Nat),K.lookup a=some o∧o.cls= .type "tuple"∧o.data= .seq its n∧its.size≤sizeLine∧Vals xs its.toList
def Oc:Value→Option V
 | .none=>some .cD
 | .bool b=>some (.bl b)
 | .int i _=>some (.int i)
 | .str x _=>some (.str x)
 | .bytes b _=>some (.XS b)
 | .float b _=>some (.Fv b)
 | .ref a=>some (.ref a)
 | .type n=>some (.ty n)
 | _=>none
theorem RelV.abs{x:V}{u:Value}(r:RelV x u):Oc u=some x:=by
 cases x with
 |cD=>cases r;rfl
 |bl _=>cases r;rfl
 |int _=>obtain⟨t,rfl⟩:=r;rfl
 |str _=>obtain⟨t,rfl⟩:=r;rfl
 |XS _=>obtain⟨t,rfl⟩:=r;rfl
 |Fv _=>obtain⟨t,rfl⟩:=r;rfl
 |ref _=>cases r;rfl
 |ty _=>cases r;rfl
theorem RelV.inj{x y:V}{u:Value}(r:RelV x u)(q:RelV y u):x=y:=Option.some.inj (r.abs.symm.trans q.abs)
theorem Vals.inj:∀{xs ys:List V}{us:List Value},Vals xs us→Vals ys us→xs=ys
 | _,_,_, .nil, .nil=>rfl
 | _,_,_, .cons r t, .cons r' t'=>by rw[r.inj r',Vals.inj t t']
section
variable{X:Cx}{pins:List (Addr×Obj)}{σ:St}{H:Hp}{s:Shared}{a:Addr}{xs ys:List V}
theorem iF.of{K:PySem.W.Frag}(h:H a=some (.lst xs)):iF K H a xs:= .inl (.inl h)
theorem BB.of{K:PySem.W.Frag}(h:H a=some (.tup xs)):BB K H a xs:= .inl (.inl h)
theorem Inv.list(I:Inv X pins σ H s)(h:iF X.K H a xs):∃its:List Value,Vals xs its∧PlainL s.heap a its.toArray∧xs.length≤sizeLine:=by
 rcases h with h|⟨o,its,n,hk,hc,hd,hs,hz,r⟩
 ·obtain⟨z,its,n,r,e⟩:=h.ok I.bL;exact⟨its,r,⟨_,n,e,rfl,rfl,rfl⟩,z⟩
 ·refine⟨its.toList,r,⟨o,n,I.oC a o hk,hc,hd,by simpa using hs⟩,?_⟩;have e:=r.length;simp only[Array.length_toList]at e;omega
theorem Inv.tuple(I:Inv X pins σ H s)(h:BB X.K H a xs):∃its:List Value,Vals xs its∧IsTup s.heap a its.toArray∧xs.length≤sizeLine:=by
 rcases h with h|⟨o,its,n,hk,hc,hs,hz,r⟩
 ·obtain⟨z,its,r,p⟩:=h.ok I.bL;exact⟨its,r,p,z⟩
 ·refine⟨its.toList,r,⟨o,I.oC a o hk,hc,n,by simpa using hs⟩,?_⟩;have e:=r.length;simp only[Array.length_toList]at e;omega
theorem Inv.vU(I:Inv X pins σ H s)(h:iF X.K H a xs)(h':iF X.K H a ys):xs=ys:=by
 obtain⟨its,r,⟨o,n,e,_,_,d⟩,_⟩:=I.list h;obtain⟨its',r',⟨o',n',e',_,_,d'⟩,_⟩:=I.list h';rw[e]at e';cases e';rw[d]at d';injection d' with d1 _;have:its=its':=by simpa using congrArg Array.toList d1
 subst this;exact r.inj r'
end
abbrev Cx.Tp(X:Cx)(E:Value→Shared→Prop):Cx:={X with xe:=E}
section
variable{X:Cx}{pins:List (Addr×Obj)}{σ:St}{H:Hp}{s:Shared}{E:Value→Shared→Prop}
end
section
variable{X:Cx}{st:Stmt}{rest:List Stmt}{t u:TS}{e:Expr}{te:TE}{pos:Pos}
def Kt:TS:=fun D σ H=>D.nx σ H
def Od(t u:TS):TS:=fun D σ H=>t {D with nx:=u D} σ H
theorem aS:Aa X [] Kt:=fun _ _ σ H _ I h=>wpAny_execs_nil ⟨σ,H,I,h⟩
theorem ay(h1:PS X st t)(h2:Aa X rest u):Aa X (st::rest) (Od t u):=by
 intro pins s σ H D I h;refine wpAny_execs_cons (cj (h1 pins s σ H {D with nx:=u D} I h) fun f s1 q=>?_);cases f with
 |next=>
  obtain⟨bo,H',I',q⟩:=q;exact h2 pins s1 bo H' D I' q
 |ret v=>exact q
 |brk=>exact q
 |cont=>exact q
theorem ao(h1:PS X st t):Aa X [st] t:=by
 intro pins s σ H D I h;refine wpAny_execs_cons (cj (h1 pins s σ H D I h) fun f s1 q=>?_);cases f with
 |next=>exact wpAny_execs_nil q
 |ret v=>exact q
 |brk=>exact q
 |cont=>exact q
theorem Inv.quiet{pins:List (Addr×Obj)}{σ:St}{H:Hp}{s:Shared}(I:Inv X pins σ H s):interactive X.env=false:=by simp[interactive,I.ok.kind]
def Ku(te:TE):TS:=fun D σ H=>te σ H fun _ H1=>D.nx σ H1
theorem a9(he:PE X e te)(hs:swapsWith e none pos.line X.env=pure false:=by rfl):PS X (.Expr e pos) (Ku te):=by
 intro pins s σ H D I h;exact wpAny_Expr_any (cj (he pins s σ H _ I h) fun v s1 ⟨x,H1,I1,r1,q1⟩=>⟨σ,H1,I1,q1⟩) I.quiet hs
def Oe(te:TE):TS:=fun D σ H=>te σ H D.rt
theorem aN(he:PE X e te):PS X (.Return (some e) pos) (Oe te):=by
 intro pins s σ H D I h;exact wpAny_Return_some (cj (he pins s σ H _ I h) fun v s1 ⟨x,H1,I1,r1,q1⟩=>⟨x,σ,H1,I1,r1,q1⟩)
def Of(c:TT)(t u:TS):TS:=fun D σ H=>c σ H fun b H1=>if b=true then t D σ H1 else u D σ H1
theorem bp{c:Expr}{a b:List Stmt}{tc:TT}(hc:PT X c tc)(ha:Aa X a t)(hb:Aa X b u):PS X (.If c a b pos) (Of tc t u):=by
 intro pins s σ H D I h;refine wpAny_If (cj (hc pins s σ H _ I h) fun d s1 ⟨H1,I1,q1⟩=>?_);cases d with
 |true=>exact ha pins s1 σ H1 D I1 q1
 |false=>exact hb pins s1 σ H1 D I1 q1
end
abbrev TG:=V→St→Hp→(St→Hp→Prop)→Prop
abbrev FA:=List V→St→Hp→(St→Hp→Prop)→Prop
def PG(X:Cx)(target:Expr)(t:TG):Prop:=
 ∀(pins:List (Addr×Obj))(s:Shared)(σ:St)(H:Hp)(v:V)(u:Value)(Q:St→Hp→Prop),Inv X pins σ H s→RelV v u→t v σ H Q→
  wpAny (model X.prog X.w) X.A (assign target X.env u) (fun _ s'=>∃bo H',Inv X pins bo H' s'∧Q bo H') X.xe s
def Kv(X:Cx)(ts:List Expr)(t:FA):Prop:=
 ∀(pins:List (Addr×Obj))(s:Shared)(σ:St)(H:Hp)(vs:List V)(us:List Value)(Q:St→Hp→Prop),Inv X pins σ H s→Vals vs us→t vs σ H Q→
  wpAny (model X.prog X.w) X.A (assignInOrder ((assignEach ts X.env).map (·.2)) us) (fun _ s'=>∃bo H',Inv X pins bo H' s'∧Q bo H') X.xe s
abbrev Hg:=V→V→V→Hp→(Hp→Prop)→Prop
def Kx(X:Cx)(t:Hg):Prop:=
 ∀(pins:List (Addr×Obj))(s:Shared)(σ:St)(H:Hp)(o i v:V)(ov iv u:Value)(Q:Hp→Prop),Inv X pins σ H s→RelV o ov→RelV i iv→RelV v u→t o i v H Q→
  wpAny (model X.prog X.w) X.A (setItem ov iv u) (fun _ s'=>∃H',Inv X pins σ H' s'∧Q H') X.xe s
section
variable{X:Cx}{pos:Pos}
def Y7(i:Nat):TG:=fun v σ H Q=>Q (σ.set i (some v)) H
theorem aO{i:Nat}{x:Str}(hN:X.N.Nodup)(hi:X.N[i]?=some x)(hx:Loc X.env.scope x)(hf:X.fn x=true∨X.env.scope.names.lookup x=some .local:=by first|exact .inl rfl|exact .inr rfl|assumption):PG X (.Name x pos) (Y7 i):=by
 intro pins s σ H v u Q I r h;exact wpAny_assign_Name (vS I hN hi hx r (fun s' I'=>⟨_,H,I',h⟩) hf)
def Og:FA:=fun vs σ H Q=>vs=[]∧Q σ H
def Ky(t:TG)(u:FA):FA:=fun vs σ H Q=>∃v r,vs=v::r∧t v σ H fun bo H'=>u r bo H' Q
theorem iG:Kv X [] Og:=by
 intro pins s σ H vs us Q I r h;obtain⟨e,h⟩:=h;subst e;cases r;exact assignInOrder_nil ⟨σ,H,I,h⟩
theorem bI{e:Expr}{es:List Expr}{t:TG}{u:FA}(h1:PG X e t)(h2:Kv X es u)
  (hs:(assignEach (e::es) X.env).map (·.2)=assign e X.env::(assignEach es X.env).map (·.2):=by rfl):Kv X (e::es) (Ky t u):=by
 intro pins s σ H vs us Q I r h;obtain⟨v,vr,e1,h⟩:=h;subst e1;cases r with
 |cons r rr=>
  rw[hs];refine assignInOrder_cons (cj (h1 pins s σ H _ _ _ I r h) fun _ s1 ⟨JF,H1,I1,q1⟩=>?_);exact h2 pins s1 JF H1 _ _ Q I1 rr q1
inductive Hh(K:PySem.W.Frag)(n:Nat)(t:FA)(v:V)(σ:St)(H:Hp)(Q:St→Hp→Prop):Prop
 |mk (a:_) (xs:_) (_:v= .ref a) (_:BB K H a xs) (_:xs.length=n) (_:t xs σ H Q):Hh K n t v σ H Q
theorem Hi{es:List Expr}{k:Nat}{t:FA}{n:Nat}(hc:X.calm=true)(h:Kv X es t)
  (hn:(assignEach es X.env).length=n:=by rfl) (tm:(assignEach es X.env).findIdx? (·.1)=none:=by rfl):PG X (.Tuple es k pos) (Hh X.K n t):=by
 intro pins s σ H v u Q I r hw;obtain⟨a,xs,e1,hq,hl,hw⟩:=hw;subst e1;cases r;obtain⟨its,rv,ht,hz⟩:=I.tuple hq;refine assign_Tuple_tuple (I.ok.hd hc) ht (by simp[hn,←hl,rv.length]) tm fun h' hx=>?_
 have I1:Inv X pins σ H {s with heap:=h'}:=I.kept (t':=s.toks) fun b o e=>hx b o (Nat.ne_of_lt (Heap.lt_size e)) e
 exact h pins _ σ H xs _ Q I1 (by simpa using rv) hw
def Oh(to ti:TE)(t:Hg):TG:=fun v σ H Q=>to σ H fun o H1=>ti σ H1 fun i H2=>t o i v H2 fun H3=>Q σ H3
theorem BC{o i:Expr}{to ti:TE}{t:Hg}(ho:PE X o to)(hi:PE X i ti)(hs:Kx X t)
  (ha:∀v,assign (.Subscript o i pos) X.env v=(do
   let ov←holding [v] (eval o X.env)
   let iv←holding [v,ov] (eval i X.env)
   standAt pos
   holding [v,ov,iv] (setItem ov iv v)
   release [v,ov,iv] []):=by intro _;rfl):PG X (.Subscript o i pos) (Oh to ti t):=by
 intro pins s σ H v u Q I r h;rw[ha];refine wpAny_bind (wpAny_holding (cj (ho pins s σ H _ I h) fun ov s1 ⟨x,H1,I1,r1,q1⟩=>?_));refine wpAny_bind (wpAny_holding (cj (hi pins s1 σ H1 _ I1 q1) fun iv s2 ⟨y,H2,I2,r2,q2⟩=>?_));refine wpAny_bind (wpAny_standAt (wpAny_bind (wpAny_holding (cj (hs pins s2 σ H2 x y v ov iv u _ I2 r1 r2 r q2) fun _ s3 ⟨H3,I3,q3⟩=>?_))));exact wpAny_release ⟨σ,H3,I3,q3⟩
def Hj(te:TE)(g:TG):TS:=fun D σ H=>te σ H fun x H1=>g x σ H1 D.nx
theorem BD{tg e:Expr}{te:TE}{g:TG}(he:PE X e te)(hg:PG X tg g)(hs:swapsWithSole [tg] e pos.line X.env=pure false:=by rfl)(hw:swappedStores [tg] e X.env=pure none:=by rfl)
  (h1:(assignEach [tg] X.env).map (·.2)=[assign tg X.env]:=by rfl):PS X (.Assign [tg] e pos) (Hj te g):=by
 intro pins s σ H D I h;refine wpAny_Assign_stores (cj (he pins s σ H _ I h) fun v s1 ⟨x,H1,I1,r1,q1⟩=>?_) hs hw;rw[h1];exact cj (hg pins s1 σ H1 x v _ I1 r1 q1) fun _ s2 q=>q
theorem aH{i:Nat}{x:Str}{e:Expr}{te:TE}{pos':Pos}(hN:X.N.Nodup)(hi:X.N[i]?=some x)(hx:Loc X.env.scope x)(he:PE X e te)(hs:swapsWith e (some (.Name x pos')) pos.line X.env=pure false:=by rfl)(hf:X.fn x=true∨X.env.scope.names.lookup x=some .local:=by first|exact .inl rfl|exact .inr rfl|assumption):
  PS X (.Assign [.Name x pos'] e pos) (Hj te (Y7 i)):=by
 intro pins s σ H D I h;refine wpAny_Assign_Name (cj (he pins s σ H _ I h) fun v s1 ⟨y,H1,I1,r1,q1⟩=>?_) hs;exact vS I1 hN hi hx r1 (fun s2 I2=>⟨_,H1,I2,q1⟩) hf
end
section
variable{X:Cx}{pos:Pos}
def Hk(c:TT)(tb:TS):TS:=fun D σ H=>∃W:Nat→St→Hp→Prop,(∃m,W m σ H)∧∀m σ H,W m σ H→
 c σ H fun b H1=>if b=true then ∃N:St→Hp→Prop,(∀bo H',N bo H'→∃m',m'<m∧W m' bo H')∧tb {D with nx:=N,ct:=N,bk:=D.nx} σ H1 else D.nx σ H1
theorem qC{c:Expr}{body:List Stmt}{tc:TT}{tb:TS}(hp:PassesOwn (model X.prog X.w) X.A X.env X.xe)(hc:PT X c tc)(hb:Aa X body tb):PS X (.While c body [] pos) (Hk tc tb):=by
 intro pins s σ H D I h;obtain⟨W,⟨m0,w0⟩,turn⟩:=h;refine wpAny_While (codeAny_whileLoop (fun n s'=>∃bo H',Inv X pins bo H' s'∧W n bo H') ?_ m0 ⟨σ,H,I,w0⟩);rintro n s1 ⟨JF,H1,I1,w1⟩;refine wpAny_passesOwn hp (cj (hc pins s1 JF H1 _ I1 (turn n JF H1 w1)) fun b s2 ⟨H2,I2,q2⟩=>?_);cases b with
 |true=>
  obtain⟨N,hN,q2⟩:=q2;rw[if_pos rfl];refine wpAny_passesOwn hp (cj (hb pins s2 JF H2 _ I2 q2) fun f s3 q3=>?_);cases f with
  |next=>
   obtain⟨BE,H3,I3,n3⟩:=q3;obtain⟨m',hm,w3⟩:=hN BE H3 n3;exact⟨m',hm,BE,H3,I3,w3⟩
  |cont=>
   obtain⟨BE,H3,I3,n3⟩:=q3;obtain⟨m',hm,w3⟩:=hN BE H3 n3;exact⟨m',hm,BE,H3,I3,w3⟩
  |brk=>exact q3
  |ret v=>exact q3
 |false=>
  rw[Xk Bool.false_ne_true];exact wpAny_execs_nil ⟨JF,H2,I2,q2⟩
end
structure It where
 go:Nat→Hp→Prop
 D5:Nat→Hp→V→Hp→Prop
 stop:Nat→Hp→Prop
def gK(X:Cx)(pins:List (Addr×Obj))(H:Hp)(b:Addr):Prop:=
 H b=none∧b≠X.env.locals∧b∉X.fs∧(b∈X.ex∨X.cU.heap.objs.size≤b)∧(∀x c,X.env.cells.lookup x=some c→c≠b)∧∀p∈X.pn++pins,p.1≠b
theorem Inv.sf{X:Cx}{pins:List (Addr×Obj)}{σ:St}{H H':Hp}{s:Shared}{b:Addr}(I:Inv X pins σ H s)(hb:s.heap.objs.size≤b)(hn:H' b=none):gK X pins H' b:=by
 refine⟨hn,Nat.ne_of_gt (Nat.lt_of_lt_of_le I.lt hb),I.N6 hb, .inr (Nat.le_trans I.sz hb),fun x c e z=>?_,fun p hp z=>?_⟩
 ·obtain⟨v,q⟩:=I.cell x c e;exact absurd (Nat.lt_of_lt_of_le q.lt (by rw[z];exact hb)) (Nat.lt_irrefl _)
 ·exact absurd (Nat.lt_of_lt_of_le (Heap.lt_size (I.pin p hp).1) (by rw[z];exact hb)) (Nat.lt_irrefl _)
structure Turn(P:Program)(w:World)(K:PySem.W.Frag)(tg:Expr)(J:It)(fp:List Addr)(it:Addr)(tn:Nat→Heap→Prop):Prop where
 mem:it∈fp
 obj:∀i h,tn i h→∀b∈fp,∃o,h.get? b=some o∧∀v,o.data≠ .cell v
 keep:∀i h h',tn i h→(∀b∈fp,∀o,h.get? b=some o→h'.get? b=some o)→tn i h'
 item:∀(X:Cx),X.prog=P→X.w=w→X.K=K→X.calm=true→∀(i:Nat)(pins:List (Addr×Obj))(s:Shared)(σ:St)(H:Hp)(E:Value→Shared→Prop),Inv X pins σ H s→(∀b∈fp,gK X pins H b)→tn i s.heap→J.go i H→
  wpAny (model P w) X.A (pyNext (.ref it)) (fun r s1=>∃u,r=some u∧
   wpAny (model P w) X.A (letOwnedTupleGo tg (.ref it) u) (fun _ s2=>∃x H',Inv X pins σ H' s2∧RelV x u∧J.D5 i H x H'∧tn (i+1) s2.heap∧∀b∈fp,H' b=none) E s1) E s
 done:∀(X:Cx),X.prog=P→X.w=w→X.K=K→X.calm=true→∀(i:Nat)(pins:List (Addr×Obj))(s:Shared)(σ:St)(H:Hp)(E:Value→Shared→Prop),Inv X pins σ H s→(∀b∈fp,gK X pins H b)→tn i s.heap→J.stop i H→
  wpAny (model P w) X.A (pyNext (.ref it)) (fun r s1=>r=none∧Inv X pins σ H s1) E s
 self:∀(A:Around)(i:Nat)(s:Shared)(Q:Value→Shared→Prop)(E:Value→Shared→Prop),tn i s.heap→Q (.ref it) s→wpAny (model P w) A (pyIter (.ref it)) Q E s
abbrev TI:=St→Hp→(It→Hp→Prop)→Prop
def Oi(X:Cx)(pins:List (Addr×Obj))(σ:St)(tg:Expr)(R:It→Hp→Prop)(Oj:Value)(s2:Shared):Prop:=
 ∃(it:Addr)(fp:List Addr)(tn:Nat→Heap→Prop)(J:It)(H':Hp),Oj= .ref it∧Inv X pins σ H' s2∧Turn X.prog X.w X.K tg J fp it tn∧tn 0 s2.heap∧(∀b∈fp,gK X pins H' b)∧R J H'
def PI(X:Cx)(tg iter:Expr)(wi:TI):Prop:=
 ∀(pins:List (Addr×Obj))(s:Shared)(σ:St)(H:Hp)(R:It→Hp→Prop),Inv X pins σ H s→wi σ H R→
  wpAny (model X.prog X.w) X.A (eval iter X.env) (fun v s1=>wpAny (model X.prog X.w) X.A (pyIter v) (Oi X pins σ tg R) X.xe s1) X.xe s
theorem vV{M:Model}{A:Around}{E:Value→Shared→Prop}{s:Shared}{tg:Expr}{it:Addr}{u:Value}{o:Obj}{n:String}{vs:Array Value}{Q:Unit→Shared→Prop}(ho:s.heap.get? it=some o)(hc:o.cls= .type n)(hd:o.data= .fields vs)
  (hn:["enumerate","zip","dict_itemiterator","dict_reverseitemiterator","odict_iterator","itertools.zip_longest","itertools.pairwise"].contains n=false) (hQ:Q () s):wpAny M A (letOwnedTupleGo tg (.ref it) u) Q E s:=by
 unfold letOwnedTupleGo;cases tg<;>first
  |exact wpAny_pure hQ
  |(cases u<;>first
    |exact wpAny_pure hQ
    |(refine wpAny_bind (wpAny_load ho ?_)
      rw[hc,hd];show wpAny M A (if (["enumerate","zip","dict_itemiterator","dict_reverseitemiterator","odict_iterator","itertools.zip_longest","itertools.pairwise"].contains n&&vs[0]?==some (rawInt _))=true then _ else _) Q E s;rw[Xk (by intro h;rw[hn,Bool.false_and]at h;cases h)];exact wpAny_pure hQ))
def JG(K:PySem.W.Frag)(a:Addr):It:=
 ⟨fun i H=>∃xs x,iF K H a xs∧xs[i]?=some x,fun i H x H'=>H'=H∧∀xs,iF K H a xs→xs[i]?=some x,fun i H=>∃xs,iF K H a xs∧xs.length≤i⟩
def Hl(lo:Int)(n:Nat):It:=⟨fun i _=>i<n,fun i H x H'=>H'=H∧x= .int (lo+i),fun i _=>n≤i⟩
theorem Ac{P:Program}{w:World}{K:PySem.W.Frag}{tg:Expr}(a it:Addr):Turn P w K tg (JG K a) [it] it (fun i h=>h.IsListIter it a i) where
 mem:=XA
 obj:=fun i h st b hb=>by
  have e:b=it:=by simpa using hb
  subst e;obtain⟨o,e,c,d⟩:=st;exact⟨o,e,fun v z=>by rw[d]at z;cases z⟩
 keep:=fun i h h' st k=>st.at fun o e=>k it (XA) o e
 item:=by
  intro X hP hw hK hc i pins s σ H E I hf st hg;subst hP hw hK;obtain⟨xs,x,hq,hx⟩:=hg;obtain⟨its,rv,p,hz⟩:=I.list hq;obtain⟨u,hu,ru⟩:=rv.get hx;obtain⟨f0,f1,f2,f3,f4,f5⟩:=hf it (XA);refine wpAny_pyNext_list_item st p.isList (x:=u) (by simpa using hu) fun h' aP sb=>?_
  have I1:Inv X pins σ H {s with heap:=h'}:=I.turned (t':=s.toks) (fun b o hb e=>(sb.2 b hb).trans e) f0 f1 f3 f4 f5;obtain⟨o,e,c,d⟩:=id aP;exact⟨u,rfl,vV (s:={s with heap:=h'}) e c d (Xy) ⟨x,H,I1,ru,⟨rfl,fun ys hy=>by rw[I.vU hy hq];exact hx⟩,aP,fun b hb=>(hf b hb).1⟩⟩
 done:=by
  intro X hP hw hK hc i pins s σ H E I hf st hg;subst hP hw hK;obtain⟨xs,hq,hx⟩:=hg;obtain⟨its,rv,p,hz⟩:=I.list hq;obtain⟨f0,f1,f2,f3,f4,f5⟩:=hf it (XA);have hl:=rv.length;exact wpAny_pyNext_list_end (I.ok.hd hc) st p.isList (by simp;omega) fun h' eb=>⟨rfl,I.turned (t':=s.toks) (fun b o hb e=>eb b o hb e) f0 f1 f3 f4 f5⟩
 self:=fun _ _ _ _ _ st h=>wpAny_pyIter_listiter st h
theorem ZJ{P:Program}{w:World}{K:PySem.W.Frag}{tg:Expr}(it:Addr)(lo:Int)(n:Nat):Turn P w K tg (Hl lo n) [it] it (fun i h=>IsRangeIter h it (lo+(i:Nat)*1) ((n:Int)-(i:Nat)) 1) where
 mem:=XA
 obj:=fun i h st b hb=>by
  have e:b=it:=by simpa using hb
  subst e;exact⟨_,st,fun v z=>by
   have z':Data.fields _=Data.cell v:=z;cases z'⟩
 keep:=fun i h h' st k=>k it (XA) _ st
 item:=by
  intro X hP hw hK hc i pins s σ H E I hf st hg;subst hP hw hK;obtain⟨f0,f1,f2,f3,f4,f5⟩:=hf it (XA);have W:=Walks.range (prog:=X.prog) (w:=X.w) (I.ok.hd hc) it lo 1 n;refine W.item i s _ _ hg st fun v h' tk hv aP kk=>?_
  obtain⟨t,rfl⟩:=hv;have I1:Inv X pins σ H {s with heap:=h',toks:=tk}:=I.turned (fun b o hb e=>kk b o (by simpa using hb) e) f0 f1 f3 f4 f5;refine⟨_,rfl,vV (s:={s with heap:=h',toks:=tk}) (n:="range_iterator") aP rfl rfl (Xy) ⟨.int (lo+i),H,I1,⟨t,?_⟩,⟨rfl,rfl⟩,aP,fun b hb=>(hf b hb).1⟩⟩;rw[Int.mul_one]
 done:=by
  intro X hP hw hK hc i pins s σ H E I hf st hg;subst hP hw hK;obtain⟨f0,f1,f2,f3,f4,f5⟩:=hf it (XA);exact wpAny_pyNext_range_end (I.ok.hd hc) st (by have:n≤i:=hg;omega) fun h' eb=>⟨rfl,I.turned (t':=s.toks) (fun b o hb e=>eb b o hb e) f0 f1 f3 f4 f5⟩
 self:=fun _ _ _ _ _ st h=>wpAny_pyIter_rangeiter st h
section
variable{X:Cx}{tg:Expr}
def FC(K:PySem.W.Frag)(tl:TE):TI:=fun σ H R=>tl σ H fun x H1=>∃a,x= .ref a∧(∃xs,iF K H1 a xs)∧R (JG K a) H1
theorem D6{l:Expr}{tl:TE}(hl:PE X l tl):PI X tg l (FC X.K tl):=by
 intro pins s σ H R I h;refine cj (hl pins s σ H _ I h) fun v s1 ⟨x,H1,I1,r1,q1⟩=>?_
 obtain⟨a,e,⟨xs,hq⟩,q⟩:=q1;subst e;cases r1;obtain⟨its,rv,p,hz⟩:=I1.list hq;refine wpAny_pyIter_list p.isList ?_;refine⟨s1.heap.objs.size,[s1.heap.objs.size],_,_,H1,rfl,I1.kept (t':=s1.toks) fun b o e=>Xl e,Ac a _,⟨_,Heap.get?_push_size _ rfl,rfl,rfl⟩,fun b hb=>?_,q⟩;have e:b=s1.heap.objs.size:=by simpa using hb
 subst e;exact I1.sf (Nat.le_refl _) (I1.bL.fresh (Nat.le_refl _))
theorem BF{pins:List (Addr×Obj)}{σ:St}{H:Hp}{s:Shared}{R:It→Hp→Prop}{E:Value→Shared→Prop}{lo hi:Int}{t u v:Tok}{tk:Nat}(I:Inv X pins σ H s)(h1:-(2^62)≤lo)(h2:lo<2^62)(h3:-(2^62)≤hi)(h4:hi<2^62)
  (q:R (Hl lo (hi-lo).toNat) H):wpAny (model X.prog X.w) X.A (pyIter (.ref s.heap.objs.size)) (Oi X pins σ tg R) E {s with heap:=s.heap.push {cls:= .type "range",data:= .fields #[.int lo t, .int hi u, .int 1 v]},toks:=tk}:=by
 refine wpAny_pyIter_range (IsRange.new ..) (small_one h1 h2 h3 h4) ?_;have I1:Inv X pins σ H {s with heap:=s.heap.push {cls:= .type "range",data:= .fields #[.int lo t, .int hi u, .int 1 v]},toks:=tk}:=I.kept fun b o e=>Xl e
 refine⟨(s.heap.push {cls:= .type "range",data:= .fields #[.int lo t, .int hi u, .int 1 v]}).objs.size,[(s.heap.push {cls:= .type "range",data:= .fields #[.int lo t, .int hi u, .int 1 v]}).objs.size],_,_,H,rfl,
  I1.kept (t':=tk) fun b o e=>Xl e,ZJ _ lo (hi-lo).toNat,?_,fun b hb=>?_,q⟩
 ·have e1:lo+((0:Nat):Int)*1=lo:=XA;have e2:(((hi-lo).toNat:Nat):Int)-((0:Nat):Int)=Builtin.Range.rangeSize lo hi 1:=by rw[rangeSize_one];split<;>omega
  show IsRangeIter _ _ (lo+((0:Nat):Int)*1) ((((hi-lo).toNat:Nat):Int)-((0:Nat):Int)) 1;rw[e1,e2];exact Heap.get?_push_size _ rfl
 ·have e:b=(s.heap.push {cls:= .type "range",data:= .fields #[.int lo t, .int hi u, .int 1 v]}).objs.size:=by simpa using hb
  subst e;exact I1.sf (Nat.le_refl _) (I1.bL.fresh (Nat.le_refl _))
def Kz(ta:TA):TI:=fun σ H R=>ta σ H fun vs H1=>∃j:Int,vs=[.int j]∧-(2^62)≤j∧j<2^62∧R (Hl 0 j.toNat) H1
theorem fg{a:Expr}{ta:TA}{p pos:Pos}(hg:Gl X "range")(hm:X.mg "range"=none)(ha:PA X [a] ta)(hs:starEach [a] X.env=[(false,eval a X.env)]:=by rfl):PI X tg (.Call (.Name "range" p) [a] [] pos) (Kz ta):=by
 intro pins s σ H R I h;refine Call_ (kg I hg hm boot_range (PyProof.Rows.callWith_type1 (cj (ha pos pins s σ H _ I h) fun us s1 ⟨vs,H1,I1,r1,q1⟩=>?_) hs rfl));obtain⟨j,e,q1,q2,q⟩:=q1;subst e;cases r1 with
 |cons r rr=>
  cases rr;obtain⟨t,rfl⟩:=r;exact call_range_1 (BF I1 Xs (Xx) q1 q2 (by simpa using q))
def Ol(wi:TI)(g:TG)(tb:TS):TS:=fun D σ H=>wi σ H fun J H1=>∃W:Nat→Nat→St→Hp→Prop,(∃m,W 0 m σ H1)∧∀i m σ H,W i m σ H→
 (J.stop i H∧D.nx σ H)∨(J.go i H∧∃N:St→Hp→Prop,(∀bo H',N bo H'→∃m',m'<m∧W (i+1) m' bo H')∧∀x H',J.D5 i H x H'→g x σ H' fun fq H2=>tb {D with nx:=N,ct:=N,bk:=D.nx} fq H2)
def qD(fp:List Addr)(h:Heap):List (Addr×Obj):=fp.filterMap fun b=>(h.get? b).map fun o=>(b,o)
theorem f9{fp:List Addr}{h:Heap}{b:Addr}{o:Obj}(hb:b∈fp)(e:h.get? b=some o):(b,o)∈qD fp h:=List.mem_filterMap.mpr ⟨b,hb,by rw[e];rfl⟩
theorem Ad{fp:List Addr}{h:Heap}{p:Addr×Obj}(hp:p∈qD fp h):p.1∈fp∧h.get? p.1=some p.2:=by
 obtain⟨b,hb,e⟩:=List.mem_filterMap.mp hp;cases q:h.get? b with
 |none=>rw[q]at e;cases e
 |some o=>
  rw[q]at e;have e':(b,o)=p:=Option.some.inj e;subst e';exact⟨hb,q⟩
theorem Inv.pinned{pins:List (Addr×Obj)}{σ:St}{H:Hp}{s:Shared}{fp:List Addr}(I:Inv X pins σ H s)(hf:∀b∈fp,gK X pins H b)(ho:∀b∈fp,∃o,s.heap.get? b=some o∧∀v,o.data≠ .cell v):Inv X (pins++qD fp s.heap) σ H s:=
 I.Yk fun p hp=>(List.mem_append.mp hp).elim (fun z=>I.pin p (List.mem_append_right _ z)) fun z=>by
  obtain⟨hb,e⟩:=Ad z;obtain⟨f0,f1,f2,_⟩:=hf p.1 hb;obtain⟨o,e',d⟩:=ho p.1 hb;rw[e]at e';cases e';exact⟨e,f0,f1,f2,d⟩
theorem Inv.kh{pins pl:List (Addr×Obj)}{σ:St}{H:Hp}{s:Shared}(I:Inv X (pins++pl) σ H s):Inv X pins σ H s:=I.Yk fun p hp=>I.pin p (List.mem_append_right _ (List.mem_append_left _ hp))
theorem cy{iter:Expr}{body:List Stmt}{wi:TI}{g:TG}{tb:TS}{pos:Pos}(hp:PassesOwn (model X.prog X.w) X.A X.env X.xe)(hc:X.calm=true)(hi:PI X tg iter wi)(hg:PG X tg g)(hb:Aa X body tb)
  (hs:∀x,foldedSetIterable iter X.env x=pure x:=by intro _;rfl):PS X (.For tg iter body [] pos) (Ol wi g tb):=by
 intro pins s σ H D I h;refine wpAny_For (cj (hi pins s σ H _ I h) fun v s1 h1=>cj h1 fun Oj s2 h2=>?_) hs;obtain⟨it,fp,tn,J,H2,e,I2,T,dq,f2,W,⟨m0,w0⟩,turn⟩:=h2;subst e;have XU:∀{H':Hp},(∀b∈fp,H' b=none)→∀b∈fp,gK X pins H' b:=fun hn b hb=>⟨hn b hb,(f2 b hb).2⟩
 refine codeAny_forLoop_any (fun n s'=>∃i bo H',Inv X pins bo H' s'∧tn i s'.heap∧(∀b∈fp,H' b=none)∧W i n bo H') ?_ m0 ⟨0,σ,H2,I2,dq,fun b hb=>(f2 b hb).1,w0⟩;rintro n s3 ⟨i,BE,H3,I3,BG,JH,w3⟩;rcases turn i n BE H3 w3 with⟨stop,qn⟩|⟨go,N,hN,step⟩
 ·refine wpAny_passesOwn hp (cj (T.done X rfl rfl rfl hc i pins s3 BE H3 X.xe I3 (XU JH) BG stop) fun r s4 ⟨hr,I4⟩=>?_);subst hr;exact wpAny_execs_nil ⟨BE,H3,I4,qn⟩
 ·refine wpAny_passesOwn hp (cj (T.item X rfl rfl rfl hc i pins s3 BE H3 X.xe I3 (XU JH) BG go) fun r s4 ⟨u,hr,h4⟩=>?_);subst hr;refine wpAny_passesOwn hp (cj h4 fun _ s5 ⟨x,H5,I5,r5,y5,JI,ME⟩=>?_);have Tq:=I5.pinned (XU ME) (T.obj _ _ JI);refine wpAny_passesOwn hp (cj (hg _ s5 BE H5 x u _ Tq r5 (step x H5 y5)) fun _ s6 ⟨Tr,H6,I6,q6⟩=>?_);refine wpAny_passesOwn hp (cj (hb _ s6 Tr H6 _ I6 q6) fun f s7 q7=>?_);have again:∀{BH:St}{H7:Hp},Inv X (pins++qD fp s5.heap) BH H7 s7→N BH H7→∃m,m<n∧∃i bo H',Inv X pins bo H' s7∧tn i s7.heap∧(∀b∈fp,H' b=none)∧W i m bo H':=fun{BH H7} I7 n7=>by
   obtain⟨m',hm,w7⟩:=hN BH H7 n7;refine⟨m',hm,i+1,BH,H7,I7.kh,T.keep _ _ _ JI fun b hb o e=>(I7.pin (b,o) (List.mem_append_right _ (List.mem_append_right _ (f9 hb e)))).1,fun b hb=>?_,w7⟩;obtain⟨o,e,d⟩:=T.obj _ _ JI b hb;exact(I7.pin (b,o) (List.mem_append_right _ (List.mem_append_right _ (f9 hb e)))).2.1
  cases f with
  |next=>obtain⟨BH,H7,I7,n7⟩:=q7;exact again I7 n7
  |cont=>obtain⟨BH,H7,I7,n7⟩:=q7;exact again I7 n7
  |brk=>obtain⟨BH,H7,I7,q7⟩:=q7;exact⟨BH,H7,I7.kh,q7⟩
  |ret v=>obtain⟨x7,BH,H7,I7,r7,q7⟩:=q7;exact⟨x7,BH,H7,I7.kh,r7,q7⟩
end
theorem cz{K:PySem.W.Frag}{a:Addr}{xs:List V}{g:TG}{tb:TS}{D:Ends}{σ:St}{H:Hp}(Pv:Nat→St→Hp→Prop)(h0:Pv 0 σ H)(hl:∀i σ H,i≤xs.length→Pv i σ H→iF K H a xs)
  (hs:∀i x σ H,xs[i]?=some x→Pv i σ H→g x σ H fun fq H2=>tb {D with nx:=Pv (i+1),ct:=Pv (i+1),bk:=D.nx} fq H2) (hd:∀σ H,Pv xs.length σ H→D.nx σ H):
  ∃W:Nat→Nat→St→Hp→Prop,(∃m,W 0 m σ H)∧∀i m σ H,W i m σ H→
   ((JG K a).stop i H∧D.nx σ H)∨((JG K a).go i H∧∃N:St→Hp→Prop,(∀bo H',N bo H'→∃m',m'<m∧W (i+1) m' bo H')∧∀x H',(JG K a).D5 i H x H'→g x σ H' fun fq H2=>tb {D with nx:=N,ct:=N,bk:=D.nx} fq H2):=by
 refine⟨fun i m σ H=>m=xs.length-i∧i≤xs.length∧Pv i σ H,⟨xs.length,XA,Nat.zero_le _,h0⟩,?_⟩;rintro i m σ H ⟨rfl,hi,p⟩;have q:=hl i σ H hi p;by_cases gT:i<xs.length
 ·refine .inr ⟨⟨xs,xs[i],q,by simp[gT]⟩,Pv (i+1),fun bo H' p'=>⟨xs.length-(i+1),Xx,rfl,gT,p'⟩,fun x H' y=>?_⟩;obtain⟨e,y⟩:=y;subst e;exact hs i x σ _ (y xs q) p
 ·have e:i=xs.length:=Xx;subst e;exact .inl ⟨⟨xs,q,Nat.le_refl _⟩,hd σ H p⟩
theorem kY{lo:Int}{n:Nat}{g:TG}{tb:TS}{D:Ends}{σ:St}{H:Hp}(Pv:Nat→St→Hp→Prop)(h0:Pv 0 σ H)
  (hs:∀i σ H,i<n→Pv i σ H→g (.int (lo+i)) σ H fun fq H2=>tb {D with nx:=Pv (i+1),ct:=Pv (i+1),bk:=D.nx} fq H2) (hd:∀σ H,Pv n σ H→D.nx σ H):
  ∃W:Nat→Nat→St→Hp→Prop,(∃m,W 0 m σ H)∧∀i m σ H,W i m σ H→
   ((Hl lo n).stop i H∧D.nx σ H)∨((Hl lo n).go i H∧∃N:St→Hp→Prop,(∀bo H',N bo H'→∃m',m'<m∧W (i+1) m' bo H')∧∀x H',(Hl lo n).D5 i H x H'→g x σ H' fun fq H2=>tb {D with nx:=N,ct:=N,bk:=D.nx} fq H2):=by
 refine⟨fun i m σ H=>m=n-i∧i≤n∧Pv i σ H,⟨n,XA,Nat.zero_le _,h0⟩,?_⟩;rintro i m σ H ⟨rfl,hi,p⟩;by_cases gT:i<n
 ·refine .inr ⟨gT,Pv (i+1),fun bo H' p'=>⟨n-(i+1),Xx,rfl,gT,p'⟩,fun x H' y=>?_⟩;obtain⟨e,y⟩:=y;subst e y;exact hs i σ _ gT p
 ·have e:i=n:=Xx;subst e;exact .inl ⟨Nat.le_refl _,hd σ H p⟩
abbrev R2:=V→V→Hp→VK→Prop
def qE(X:Cx)(f:Value→Value→Sem Value)(r:R2):Prop:=
 ∀(pins:List (Addr×Obj))(s:Shared)(σ:St)(H:Hp)(x y:V)(v u:Value)(Q:VK),Inv X pins σ H s→RelV x v→RelV y u→r x y H Q→
  wpAny (model X.prog X.w) X.A (f v u) (EP X pins σ Q) X.xe s
def Om(X:Cx)(f:Value→Sem Value)(r:V→Hp→VK→Prop):Prop:=
 ∀(pins:List (Addr×Obj))(s:Shared)(σ:St)(H:Hp)(x:V)(v:Value)(Q:VK),Inv X pins σ H s→RelV x v→r x H Q→
  wpAny (model X.prog X.w) X.A (f v) (EP X pins σ Q) X.xe s
def h_(X:Cx)(f:Value)(r:List V→Hp→VK→Prop):Prop:=
 ∀(pins:List (Addr×Obj))(s:Shared)(σ:St)(H:Hp)(xs:List V)(us:List Value)(Q:VK),Inv X pins σ H s→Vals xs us→r xs H Q→
  wpAny (model X.prog X.w) X.A (call f us) (EP X pins σ Q) X.xe s
def MF(r:R2)(ta tb:TE):TE:=fun σ H Q=>ta σ H fun x H1=>tb σ H1 fun y H2=>r x y H2 Q
def Ts(r:V→Hp→VK→Prop)(ta:TE):TE:=fun σ H Q=>ta σ H fun x H1=>r x H1 Q
inductive rI(C:Int→Int→Prop)(g:Int→Int→V)(x:V)(y:V)(H:Hp)(Q:VK):Prop
 |mk (i:_) (j:_) (_:x= .int i) (_:y= .int j) (_:C i j) (_:Q (g i j) H):rI C g x y H Q
inductive D7(g:Int→Int→V)(x:V)(y:V)(H:Hp)(Q:VK):Prop
 |mk (i:_) (j:_) (_:x= .int i) (_:y= .int j) (_:Q (g i j) H):D7 g x y H Q
inductive rU(g:Int→V)(x:V)(H:Hp)(Q:VK):Prop
 |mk (i:_) (_:x= .int i) (_:Q (g i) H):rU g x H Q
section
variable{X:Cx}{a b c:Expr}{ta tb tc:TE}{pos:Pos}
theorem Hm(ha:PE X a ta)(hb:PE X b tb){pins:List (Addr×Obj)}{s:Shared}{σ:St}{H:Hp}{R:V→V→Hp→Prop}(I:Inv X pins σ H s)
  (h:ta σ H fun x H1=>tb σ H1 fun y H2=>R x y H2) {Q:Value→Shared→Prop} {f:Value→Value→Sem Value}
  (hf:∀v u s2 x y H2,Inv X pins σ H2 s2→RelV x v→RelV y u→R x y H2→wpAny (model X.prog X.w) X.A (f v u) Q X.xe s2):
  wpAny (model X.prog X.w) X.A (eval a X.env) (fun v bT=>wpAny (model X.prog X.w) X.A (eval b X.env) (fun u oE=>wpAny (model X.prog X.w) X.A (f v u) Q X.xe oE) X.xe bT) X.xe s:=by
 refine cj (ha pins s σ H _ I h) fun v s1 ⟨x,H1,I1,r1,q1⟩=>?_
 refine cj (hb pins s1 σ H1 _ I1 q1) fun u s2 ⟨y,H2,I2,r2,q2⟩=>?_
 exact hf v u s2 x y H2 I2 r1 r2 q2
theorem aI{op:Operator}{r:R2}(ho:qE X (binaryOp op) r)(ha:PE X a ta)(hb:PE X b tb):PE X (.BinOp a op b pos) (MF r ta tb):=by
 intro pins s σ H Q I h;exact wpAny_BinOp (Hm ha hb I h fun v u s2 x y H2 I2 rx ry q=>ho pins s2 σ H2 x y v u Q I2 rx ry q)
theorem pL{op:UnaryOp}{r:V→Hp→VK→Prop}(ho:Om X (unaryOp op) r)(ha:PE X a ta):PE X (.UnaryOp op a pos) (Ts r ta):=by
 intro pins s σ H Q I h;exact UnaryOp_ (cj (ha pins s σ H _ I h) fun v s1 ⟨x,H1,I1,r1,q1⟩=>ho pins s1 σ H1 x v Q I1 r1 q1)
theorem Oo{f:Value→Value→Sem Value}{C:Int→Int→Prop}{g:Int→Int→Int}
  (rule:∀(i j:Int)(t u:Tok)(s:Shared)(Q:Value→Shared→Prop)(E:Value→Shared→Prop),C i j→Q (.int (g i j) s.toks) {s with toks:=s.toks+1}→wpAny (model X.prog X.w) X.A (f (.int i t) (.int j u)) Q E s):
  qE X f (rI C fun i j=> .int (g i j)):=by
 intro pins s σ H x y v u Q I rx ry h;obtain⟨i,j,rfl,rfl,hc,q⟩:=h;obtain⟨t,rfl⟩:=rx;obtain⟨t',rfl⟩:=ry;exact rule i j t t' s _ _ hc ⟨.int (g i j),H,I.tok _,⟨_,rfl⟩,q⟩
theorem KA{f:Value→Value→Sem Value}{g:Int→Int→Int}
  (rule:∀(i j:Int)(t u:Tok)(s:Shared)(Q:Value→Shared→Prop)(E:Value→Shared→Prop),Q (.int (g i j) s.toks) {s with toks:=s.toks+1}→wpAny (model X.prog X.w) X.A (f (.int i t) (.int j u)) Q E s):
  qE X f (D7 fun i j=> .int (g i j)):=by
 intro pins s σ H x y v u Q I rx ry h;obtain⟨i,j,rfl,rfl,q⟩:=h;obtain⟨t,rfl⟩:=rx;obtain⟨t',rfl⟩:=ry;exact rule i j t t' s _ _ ⟨.int (g i j),H,I.tok _,⟨_,rfl⟩,q⟩
theorem D8{f:Value→Value→Sem Value}{g:Int→Int→Bool}
  (rule:∀(i j:Int)(t u:Tok)(s:Shared)(Q:Value→Shared→Prop)(E:Value→Shared→Prop),Q (.bool (g i j)) s→wpAny (model X.prog X.w) X.A (f (.int i t) (.int j u)) Q E s):
  qE X f (D7 fun i j=> .bl (g i j)):=by
 intro pins s σ H x y v u Q I rx ry h;obtain⟨i,j,rfl,rfl,q⟩:=h;obtain⟨t,rfl⟩:=rx;obtain⟨t',rfl⟩:=ry;exact rule i j t t' s _ _ ⟨.bl (g i j),H,I,rfl,q⟩
def Hn(i j:Int):Prop:=0<j∧j<1073741824
def Ho(i j:Int):Prop:=(-(2^64)<i∧i<2^64)∨(-(2^64)<j∧j<2^64)
theorem Ho.ok{i j:Int}(h:Ho i j):IntMulOk i j:=by
 rcases h with⟨h1,h2⟩|⟨h1,h2⟩
 ·exact .of_left (intBits_le_64 h1 h2)
 ·exact .of_right (intBits_le_64 h1 h2)
theorem bM:qE X (binaryOp .Add) (D7 fun i j=> .int (i+j)):=KA fun _ _ _ _ _ _ _ q=>add_int q
theorem fu:qE X (binaryOp .Sub) (D7 fun i j=> .int (i-j)):=KA fun _ _ _ _ _ _ _ q=>sub_int q
theorem oG:qE X (binaryOp .Mult) (rI Ho fun i j=> .int (i*j)):=Oo fun _ _ _ _ _ _ _ hc q=>mul_int q hc.ok
theorem dR:qE X (binaryOp .FloorDiv) (rI Hn fun i j=> .int (i/j)):=Oo fun i j _ _ _ _ _ hc q=>by
 have h1:(0:Int)<j:=hc.1;have h2:j<1073741824:=hc.2;exact floordiv_int Xs (by rw[Int.fdiv_eq_ediv_of_nonneg i Xs];exact q) (.inl (PyProof.noPylong_small Xs))
theorem cb:qE X (binaryOp .Mod) (rI (fun _ j=>0<j) fun i j=> .int (i%j)):=Oo fun i j _ _ _ _ _ hc q=>by
 have h1:(0:Int)<j:=hc;exact mod_int' Xs (by rw[Int.fmod_eq_emod_of_nonneg i Xs];exact q)
theorem Tt{f:Value→Sem Value}{g:Int→Int}
  (rule:∀(i:Int)(t:Tok)(s:Shared)(Q:Value→Shared→Prop)(E:Value→Shared→Prop),Q (.int (g i) s.toks) {s with toks:=s.toks+1}→wpAny (model X.prog X.w) X.A (f (.int i t)) Q E s):
  Om X f (rU fun i=> .int (g i)):=by
 intro pins s σ H x v Q I rx h;obtain⟨i,rfl,q⟩:=h;obtain⟨t,rfl⟩:=rx;exact rule i t s _ _ ⟨.int (g i),H,I.tok _,⟨_,rfl⟩,q⟩
theorem ki:Om X (unaryOp .USub) (rU fun i=> .int (-i)):=Tt fun _ _ _ _ _ q=>neg_int q
end
def KC:V→V→Bool
 | .cD, .cD=>true| .cD, .int _=>true| .int _, .cD=>true| .cD, .bl _=>true| .bl _, .cD=>true| .cD, .str _=>true| .str _, .cD=>true
 | .int _, .int _=>true| .bl _, .bl _=>true| .str _, .str _=>true| .XS _, .XS _=>true
 | .int _, .str _=>true| .str _, .int _=>true| .bl _, .str _=>true| .str _, .bl _=>true
 | _,_=>false
def Tu:R2:=fun x y H Q=>KC x y=true∧Q (.bl (decide (x=y))) H
def Tv:R2:=fun x y H Q=>KC x y=true∧Q (.bl (!decide (x=y))) H
theorem Yg{i j:Int}:decide (V.int i=V.int j)=(i==j):=by
 rw[Bool.eq_iff_iff];simp
theorem BI{i j:Bool}:decide (V.bl i=V.bl j)=(i==j):=by
 rw[Bool.eq_iff_iff];simp
theorem Yn{i j:Str}:decide (V.str i=V.str j)=(i==j):=by
 rw[Bool.eq_iff_iff];simp
theorem YY{i j:Array UInt8}:decide (V.XS i=V.XS j)=(i.toList==j.toList):=by
 rw[Bool.eq_iff_iff];cases i;cases j;simp
section
variable{X:Cx}{a b c:Expr}{ta tb tc:TE}{pos:Pos}
theorem bA{pins:List (Addr×Obj)}{σ:St}{H:Hp}{s:Shared}{Q:VK}{k k':Bool}(I:Inv X pins σ H s)(q:Q (.bl k) H)(e:k=k'):EP X pins σ Q (.bool k') s:=by
 subst e;exact⟨.bl k,H,I,rfl,q⟩
theorem iH:qE X (compareOp .Eq) Tu:=by
 intro pins s σ H x y v u Q I rx ry h;obtain⟨hs,q⟩:=h;cases x with
 |cD=>
  cases rx;cases y with
  |cD=>cases ry;exact PySem.EqNone.eq_none_none (bA I q Xr)
  |bl j=>cases ry;exact PySem.EqNone.eq_none_bool (bA I q Xr)
  |int j=>obtain⟨t',rfl⟩:=ry;exact PySem.EqNone.eq_none_int (bA I q Xr)
  |str j=>obtain⟨t',rfl⟩:=ry;exact PySem.EqNone.eq_none_str (bA I q Xr)
  | _=>exact absurd (show false=true from hs) Bool.false_ne_true
 |bl i=>
  cases rx;cases y with
  |cD=>cases ry;exact PySem.EqNone.eq_bool_none (bA I q Xr)
  |bl j=>cases ry;exact eq_bool (bA I q BI)
  |str j=>obtain⟨t',rfl⟩:=ry;exact PySem.EqMixed.eq_bool_str (bA I q Xr)
  | _=>exact absurd (show false=true from hs) Bool.false_ne_true
 |int i=>
  obtain⟨t,rfl⟩:=rx;cases y with
  |cD=>cases ry;exact PySem.EqNone.eq_int_none (bA I q Xr)
  |int j=>obtain⟨t',rfl⟩:=ry;exact eq_int (bA I q Yg)
  |str j=>obtain⟨t',rfl⟩:=ry;exact PySem.EqMixed.eq_int_str (bA I q Xr)
  | _=>exact absurd (show false=true from hs) Bool.false_ne_true
 |str i=>
  obtain⟨t,rfl⟩:=rx;cases y with
  |cD=>cases ry;exact PySem.EqNone.eq_str_none (bA I q Xr)
  |bl j=>cases ry;exact PySem.EqMixed.eq_str_bool (bA I q Xr)
  |int j=>obtain⟨t',rfl⟩:=ry;exact PySem.EqMixed.eq_str_int (bA I q Xr)
  |str j=>obtain⟨t',rfl⟩:=ry;exact eq_str (bA I q Yn)
  | _=>exact absurd (show false=true from hs) Bool.false_ne_true
 |XS i=>
  obtain⟨t,rfl⟩:=rx;cases y with
  |XS j=>obtain⟨t',rfl⟩:=ry;exact PySem.W.eq_bytes (bA I q YY)
  | _=>exact absurd (show false=true from hs) Bool.false_ne_true
 | _=>cases y<;>exact absurd (show false=true from hs) Bool.false_ne_true
theorem tq:qE X (compareOp .NotEq) Tv:=by
 intro pins s σ H x y v u Q I rx ry h;obtain⟨hs,q⟩:=h;cases x with
 |cD=>
  cases rx;cases y with
  |cD=>cases ry;exact PySem.EqNone.ne_none_none (bA I q Xr)
  |bl j=>cases ry;exact PySem.EqNone.ne_none_bool (bA I q Xr)
  |int j=>obtain⟨t',rfl⟩:=ry;exact PySem.EqNone.ne_none_int (bA I q Xr)
  |str j=>obtain⟨t',rfl⟩:=ry;exact PySem.EqNone.ne_none_str (bA I q Xr)
  | _=>exact absurd (show false=true from hs) Bool.false_ne_true
 |bl i=>
  cases rx;cases y with
  |cD=>cases ry;exact PySem.EqNone.ne_bool_none (bA I q Xr)
  |bl j=>cases ry;exact ne_bool (bA I q (congrArg not BI))
  |str j=>obtain⟨t',rfl⟩:=ry;exact PySem.EqMixed.ne_bool_str (bA I q Xr)
  | _=>exact absurd (show false=true from hs) Bool.false_ne_true
 |int i=>
  obtain⟨t,rfl⟩:=rx;cases y with
  |cD=>cases ry;exact PySem.EqNone.ne_int_none (bA I q Xr)
  |int j=>obtain⟨t',rfl⟩:=ry;exact ne_int (bA I q (congrArg not Yg))
  |str j=>obtain⟨t',rfl⟩:=ry;exact PySem.EqMixed.ne_int_str (bA I q Xr)
  | _=>exact absurd (show false=true from hs) Bool.false_ne_true
 |str i=>
  obtain⟨t,rfl⟩:=rx;cases y with
  |cD=>cases ry;exact PySem.EqNone.ne_str_none (bA I q Xr)
  |bl j=>cases ry;exact PySem.EqMixed.ne_str_bool (bA I q Xr)
  |int j=>obtain⟨t',rfl⟩:=ry;exact PySem.EqMixed.ne_str_int (bA I q Xr)
  |str j=>obtain⟨t',rfl⟩:=ry;exact ne_str (bA I q (congrArg not Yn))
  | _=>exact absurd (show false=true from hs) Bool.false_ne_true
 |XS i=>
  obtain⟨t,rfl⟩:=rx;cases y with
  |XS j=>obtain⟨t',rfl⟩:=ry;exact PySem.W.ne_bytes (bA I q (congrArg not YY))
  | _=>exact absurd (show false=true from hs) Bool.false_ne_true
 | _=>cases y<;>exact absurd (show false=true from hs) Bool.false_ne_true
theorem qF:qE X (compareOp .Lt) (D7 fun i j=> .bl (decide (i<j))):=D8 fun _ _ _ _ _ _ _ q=>lt_int q
theorem FF:qE X (compareOp .LtE) (D7 fun i j=> .bl (decide (i≤j))):=D8 fun _ _ _ _ _ _ _ q=>le_int q
theorem vW:qE X (compareOp .Gt) (D7 fun i j=> .bl (decide (j<i))):=D8 fun _ _ _ _ _ _ _ q=>gt_int q
theorem FG:qE X (compareOp .GtE) (D7 fun i j=> .bl (decide (j≤i))):=D8 fun _ _ _ _ _ _ _ q=>ge_int q
theorem aX(b:Expr){op:CmpOp}(h:op≠ .In:=by decide)(h2:op≠ .NotIn:=by decide):behindInMarks op b=false:=by
 have e1:(op==CmpOp.In)=false:=by cases op<;>first|rfl|exact absurd rfl h
 have e2:(op==CmpOp.NotIn)=false:=by cases op<;>first|rfl|exact absurd rfl h2
 cases b<;>simp[behindInMarks,e1,e2]
theorem kZ{op:CmpOp}{r:R2}(ho:qE X (compareOp op) r)(ha:PE X a ta)(hb:PE X b tb)(hm:behindInMarks op b=false):PE X (.Compare a [op] [b] pos) (MF r ta tb):=by
 intro pins s σ H Q I h;exact wpAny_Compare1 (Hm ha hb I h fun v u s2 x y H2 I2 rx ry q=>ho pins s2 σ H2 x y v u Q I2 rx ry q) hm
def KD(t:TE):TT:=fun σ H Q=>t σ H fun x H'=>∃k,x= .bl k∧Q k H'
theorem aV{op:CmpOp}{r:R2}(ho:qE X (compareOp op) r)(ha:PE X a ta)(hb:PE X b tb)(hm:behindInMarks op b=false):PT X (.Compare a [op] [b] pos) (KD (MF r ta tb)):=by
 intro pins s σ H Q I h;refine wpAny_isTrue_Compare1 (cj (ha pins s σ H _ I h) fun v s1 ⟨x,H1,I1,r1,q1⟩=>cj (hb pins s1 σ H1 _ I1 q1) fun u s2 ⟨y,H2,I2,r2,q2⟩=>
  cj (ho pins s2 σ H2 x y v u _ I2 r1 r2 q2) fun c s3 ⟨z,H3,I3,r3,k,e,q3⟩=>?_) hm
 subst e;cases r3;exact wpAny_truthy_bool ⟨H3,I3,q3⟩
theorem oH:(sizeLine:Nat)<2^63:=by rw[sizeLine_eq];decide
theorem ic:qE X (binaryOp .Add) (fun x y H Q=>∃i j,x= .str i∧y= .str j∧i.length+j.length≤sizeLine∧Q (.str (i++j)) H):=by
 intro pins s σ H x y v u Q I rx ry h;obtain⟨i,j,rfl,rfl,hz,q⟩:=h;obtain⟨t,rfl⟩:=rx;obtain⟨t',rfl⟩:=ry;exact add_str (fun t' tk=>⟨.str (i++j),H,I.tok _,⟨_,rfl⟩,q⟩) hz
theorem vals1{x:V}{us:List Value}(r:Vals [x] us):∃u,us=[u]∧RelV x u:=by
 cases r with
 |cons r1 r2=>cases r2;exact⟨_,rfl,r1⟩
theorem vals2{x y:V}{us:List Value}(r:Vals [x,y] us):∃u w',us=[u,w']∧RelV x u∧RelV y w':=by
 cases r with
 |cons r1 r2=>
  cases r2 with
  |cons r3 r4=>cases r4;exact⟨_,_,rfl,r1,r3⟩
theorem Ae(hc:X.calm=true):h_ X (.builtin "max") (fun xs H Q=>∃i j,xs=[.int i, .int j]∧Q (.int (if j>i then j else i)) H):=by
 intro pins s σ H xs us Q I r h;obtain⟨i,j,rfl,q⟩:=h;obtain⟨u,w',rfl,⟨t,rfl⟩,⟨t',rfl⟩⟩:=vals2 r;refine max_two_ints (I.ok.hd hc) fun h' tk k=>⟨_,H,I.kept k,?_,q⟩
 by_cases hj:j>i
 ·rw[Xo hj,Xo hj];exact⟨_,rfl⟩
 ·rw[Xk hj,Xk hj];exact⟨_,rfl⟩
theorem k8(hc:X.calm=true):h_ X (.builtin "min") (fun xs H Q=>∃i j,xs=[.int i, .int j]∧Q (.int (if j<i then j else i)) H):=by
 intro pins s σ H xs us Q I r h;obtain⟨i,j,rfl,q⟩:=h;obtain⟨u,w',rfl,⟨t,rfl⟩,⟨t',rfl⟩⟩:=vals2 r;refine min_two_ints (I.ok.hd hc) fun h' tk k=>⟨_,H,I.kept k,?_,q⟩
 by_cases hj:j<i
 ·rw[Xo hj,Xo hj];exact⟨_,rfl⟩
 ·rw[Xk hj,Xk hj];exact⟨_,rfl⟩
theorem Af:h_ X (.type "int") (fun xs H Q=>(∃i,xs=[.int i]∧Q (.int i) H)∨∃k,xs=[.bl k]∧Q (.int (if k then 1 else 0)) H):=by
 intro pins s σ H xs us Q I r h;rcases h with⟨i,rfl,q⟩|⟨k,rfl,q⟩
 ·obtain⟨u,rfl,t,rfl⟩:=vals1 r;exact call_int_int ⟨.int i,H,I,⟨_,rfl⟩,q⟩
 ·obtain⟨u,rfl,r1⟩:=vals1 r;cases r1;exact call_int_bool ⟨.int (if k then 1 else 0),H,I.tok _,⟨_,rfl⟩,q⟩
end
structure XT(h:Heap)(x dx C:Addr)(mA:Str→Option Value):Prop where
 obj:h.get? x=some (PySem.W.instObj C dx)
 ns:h.Ns1 dx mA
 ne:dx≠x
theorem Ag{h:Heap}{dx:Addr}{mA:Str→Option Value}(n:h.Ns1 dx mA):∃od,h.get? dx=some od∧∀name,PySem.W.lookIn name od=some (mA name):=by
 obtain⟨o,es,ep,ho,hd,hk,_,hm⟩:=n;refine⟨o,ho,fun name=>?_⟩;have e:=hm name;unfold nsFind findBy at e;rw[←Array.find?_toList]at e;unfold PySem.W.lookIn;rw[hd];dsimp only;split
 ·rename_i y q
  rw[q]at e;exact congrArg some e
 ·rename_i q
  rw[q]at e;have a:es.toList.any (·.refKey)=false:=by
   rw[List.any_eq_false];intro y hy;obtain⟨z,t,mW⟩:=hk y (Array.mem_toList_iff.mp hy);simp[DictEntry.refKey,mW]
  have a':¬es.toList.any (·.refKey)=true:=by rw[a];exact Bool.false_ne_true
  rw[Xk a'];exact congrArg some e
theorem XT.look{h:Heap}{x dx C:Addr}{mA:Str→Option Value}(I:XT h x dx C mA):∃od,PySem.W.InstAt h x (PySem.W.instObj C dx) C (some od)∧∀name,PySem.W.lookIn name od=some (mA name):=
 let ⟨od,ho,hl⟩:=Ag I.ns
 ⟨od,⟨I.obj,rfl,rfl,ho⟩,hl⟩
section
variable{prog:Program}{w:World}{A:Around}{E:Value→Shared→Prop}{s:Shared}{K:PySem.W.Frag}{x dx C f:Addr}{mA:Str→Option Value}{name:Str}{v:Value}
theorem get_map{expr:Bool}{Q:Value→Shared→Prop}(X:K.In s.heap)(I:XT s.heap x dx C mA)(hg:PySem.W.plainGet K C name=true)(hh:PySem.W.hasDictIn K C=true)
  (ha:PySem.W.findIn K (.ref C) name=some none) (hv:mA name=some v) (KG:PySem.W.handedIn v=true) (h:Q v {s with toks:=s.toks+1}):
  wpAny (model prog w) A (getAttr (.ref x) name expr) Q E s:=by
 obtain⟨od,J,hl⟩:=I.look;exact PySem.W.get_value X J (PySem.W.plainGet_of hg).1 (PySem.W.findObj_own hh ha rfl (by rw[hl,hv])) KG h
theorem BJ{pl:Sem Bool}{Q:Value×List Value→Shared→Prop}(X:K.In s.heap)(I:XT s.heap x dx C mA)(hg:PySem.W.plainGet K C name=true)
  (hf:PySem.W.findIn K (.ref C) name=some (some (.ref f))) (ht:PySem.W.isFn K (.ref f)=true) (hv:mA name=none) (h:Q (.ref f,[.ref x]) s):
  wpAny (model prog w) A (getMethod (.ref x) name pl) Q E s:=by
 obtain⟨od,J,hl⟩:=I.look;exact PySem.W.method_fn X J (PySem.W.plainGet_of hg).1 (PySem.W.plainGet_of hg).2 hf (beq_iff_eq.mp ht) (by show(PySem.W.lookIn name od).map (·.isSome)=some false;rw[hl,hv];rfl) h
theorem D9{ns:List Str}{Q:Unit→Shared→Prop}(X:K.In s.heap)(I:XT s.heap x dx C mA)
  (hs:PySem.W.findIn K (.ref C) "__setattr__"=some (some (.builtin "object.__setattr__"))) (hp:PySem.W.plainOver K C=true) (ht:PySem.W.takerIn K C name=some none) (hh:PySem.W.hasDictIn K C=true)
  (hw:PySem.Within mA ns) (hsz:ns.length≤sizeLine)
  (h:∀h',XT h' x dx C (fun y=>if y=name then some v else mA y)→Heap.SameBut dx s.heap h'→Q () {s with heap:=h',toks:=s.toks+2}):
  wpAny (model prog w) A (setAttr (.ref x) name v) Q E s:=by
 obtain⟨od,J,hl⟩:=I.look;refine PySem.W.set_plain X J hs (PySem.W.osa_open (s:={s with toks:=s.toks+1}) (r:=none) X J hp ht fun b=>?_);obtain⟨cd,hc,JE⟩:=PySem.W.any_some hh;have hx:s.heap.get? x=some ⟨.ref C,some dx, .plain,#[]⟩:=I.obj;refine wpAny_bind (wpAny_pure (wpAny_bind (wpAny_bind (wpAny_loadPart hx (wpAny_bind (PySem.W.Looks.here (s:={s with toks:=s.toks+1}) (PySem.W.looks_clsIn X hc) ?_))))));rw[JE];refine wpAny_pure (a:=some dx) (wpAny_bind (wpAny_pure (wpAny_bind ?_)));refine wpAny_nsSet1 (s:={s with toks:=s.toks+1}) I.ns fun h' sg Hq=>?_
 obtain⟨oD,Wj,Wl,Tw,Tx,Tz⟩:=sg.count (PySem.Within.cons name v hw);refine wpAny_bind (wpAny_lookBehind Tw (by rw[Tx];exact pastItsLine_dict (Nat.le_trans Tz (by rw[List.length_cons];omega))) ?_);exact wpAny_pure (h _ ⟨(Hq.2 _ (Ne.symm I.ne)).trans I.obj,sg,I.ne⟩ Hq)
theorem BK{R:Result→Shared→Prop}{vs:List Value}{kw:List (Str×Value)}(X:K.In s.heap)(hm:PySem.W.makesIn K C=true)
  (hi:PySem.W.findIn K (.ref C) "__init__"=some (some (.ref f))) (hf:PySem.W.typeIn K (.ref f)=some (.type "function"))
  (h:codeAny (model prog w) (A.under (.builtin "type.__call__" ⟨.ref C::vs,kw⟩)) (.call (.ref f) ⟨.ref (s.heap.objs.size+1)::vs,kw⟩) (PySem.W.InitBack (s.heap.objs.size+1) R)
   {s with heap:=(s.heap.push PySem.W.emptyDict).push (PySem.W.instObj C s.heap.objs.size)}):
  codeAny (model prog w) A (.call (.ref C) ⟨vs,kw⟩) R s:=by
 obtain⟨hh,g,d,t,os⟩:=s;exact PySem.W.make_core (PySem.W.makes_of X hm) (PySem.W.looks_findIn X hi) (fun self=>PySem.W.bind_fn X self hf) (.inl rfl) h
end
def bf(f:Str)(v:V):List (Str×V)→List (Str×V)
 |[]=>[(f,v)]
 |(g,x)::r=>if g=f then(g,v)::r else(g,x)::bf f v r
theorem pM(f g:Str)(v:V):∀fs:List (Str×V),(bf f v fs).lookup g=if g=f then some v else fs.lookup g
 |[]=>by
  show List.lookup g [(f,v)]=_;by_cases h:g=f
  ·have hb:(g==f)=true:=beq_iff_eq.mpr h;simp only[List.lookup,hb,Xo h]
  ·have hb:(g==f)=false:=beq_eq_false_iff_ne.mpr h;simp only[List.lookup,hb,Xk h]
 |(k,x)::r=>by
  have ih:=pM f g v r;rw[show bf f v ((k,x)::r)=(if k=f then(k,v)::r else(k,x)::bf f v r)from rfl];by_cases hk:k=f
  ·rw[Xo hk];by_cases h:g=k
   ·have hb:(g==k)=true:=beq_iff_eq.mpr h;simp only[List.lookup,hb,Xo (h.trans hk)]
   ·have hb:(g==k)=false:=beq_eq_false_iff_ne.mpr h;simp only[List.lookup,hb,Xk (fun e:g=f=>h (e.trans hk.symm))]
  ·rw[Xk hk];by_cases h:g=k
   ·have hb:(g==k)=true:=beq_iff_eq.mpr h;simp only[List.lookup,hb,Xk (fun e:g=f=>hk (h.symm.trans e))]
   ·have hb:(g==k)=false:=beq_eq_false_iff_ne.mpr h;simp only[List.lookup,hb];exact ih
theorem oI(f:Str)(v:V):∀fs:List (Str×V),f∈(bf f v fs).map (·.1)∧∀g,g∈fs.map (·.1)→g∈(bf f v fs).map (·.1)
 |[]=>⟨by simp[bf],fun g h=>by simp at h⟩
 |(k,x)::r=>by
  obtain⟨i1,i2⟩:=oI f v r;rw[show bf f v ((k,x)::r)=(if k=f then(k,v)::r else(k,x)::bf f v r)from rfl];by_cases hk:k=f
  ·rw[Xo hk];subst hk;exact⟨XA,fun g h=>by simpa using h⟩
  ·rw[Xk hk];refine⟨?_,fun g h=>?_⟩
   ·rw[List.map_cons];exact List.mem_cons_of_mem _ i1
   ·rw[List.map_cons]at h⊢;rcases List.mem_cons.mp h with e|e
    ·exact List.mem_cons.mpr (.inl e)
    ·exact List.mem_cons_of_mem _ (i2 g e)
theorem aU(f:Str)(v:V):∀fs:List (Str×V),(bf f v fs).length≤fs.length+1
 |[]=>by simp[bf]
 |(k,x)::r=>by
  have ih:=aU f v r;rw[show bf f v ((k,x)::r)=(if k=f then(k,v)::r else(k,x)::bf f v r)from rfl];by_cases hk:k=f
  ·rw[Xo hk,List.length_cons,List.length_cons];omega
  ·rw[Xk hk,List.length_cons,List.length_cons];omega
theorem jz.some_of{v:V}{o:Option Value}(r:jz (some v) o):∃u,o=some u∧RelV v u:=by
 cases o with
 |none=>exact(show False from r).elim
 |some u=>exact⟨u,rfl,r⟩
theorem jz.none_of{o:Option Value}(r:jz none o):o=none:=by
 cases o with
 |none=>rfl
 |some u=>exact(show False from r).elim
theorem Ah{v:V}{u:Value}(r:RelV v u):PySem.W.handedIn u=true:=by
 cases v with
 |cD=>cases(show u=Value.none from r);rfl
 |bl b=>cases(show u=Value.bool b from r);rfl
 |int i=>obtain⟨t,e⟩:=(show ∃t,u=Value.int i t from r);cases e;rfl
 |str x=>obtain⟨t,e⟩:=(show ∃t,u=Value.str x t from r);cases e;rfl
 |XS b=>obtain⟨t,e⟩:=(show ∃t,u=Value.bytes b t from r);cases e;rfl
 |Fv b=>obtain⟨t,e⟩:=(show ∃t,u=Value.float b t from r);cases e;rfl
 |ref a=>cases(show u=Value.ref a from r);rfl
 |ty n=>cases(show u=Value.type n from r);rfl
section
variable{P:Program}{w:World}{H H':Hp}{h h':Heap}{a C dx:Addr}{fs Tj:List (Str×V)}
theorem qr(bL:kb P w H h)(e:H a=some (.ins C dx fs)):∃mA,XT h a dx C mA∧(∀f,jz (fs.lookup f) (mA f))∧PySem.Within mA (fs.map (·.1))∧fs.length≤1000∧H dx=some (.own a):=by
 obtain⟨d,z,ne,ob,mA,n,r,q⟩:=(show cF P w H h a (.ins C dx fs)from bL a _ e)
 exact⟨mA,⟨ob,n,ne⟩,r,q,z,d⟩
end
structure ua(K:PySem.W.Frag)(C:Addr):Prop where
 pg:PySem.W.plainGet K C Str.empty=true
 hd:PySem.W.hasDictIn K C=true
 po:PySem.W.plainOver K C=true
 sa:PySem.W.findIn K (.ref C) "__setattr__"=some (some (.builtin "object.__setattr__"))
theorem ua.get{K:PySem.W.Frag}{C:Addr}(c:ua K C)(f:Str):PySem.W.plainGet K C f=true:=c.pg
def bN(K:PySem.W.Frag)(C:Addr)(f:Str):Prop:=PySem.W.findIn K (.ref C) f=some none
theorem bN.KH{K:PySem.W.Frag}{C:Addr}{f:Str}(n:bN K C f):PySem.W.takerIn K C f=some none:=by
 unfold PySem.W.takerIn;rw[show PySem.W.findIn K (.ref C) f=some none from n];rfl
structure BL(K:PySem.W.Frag)(C:Addr)(f:Str)(v:V)(u:Value):Prop where
 at_:PySem.W.findIn K (.ref C) f=some (some u)
 rel:RelV v u
 get:PySem.W.specialIn K u "__get__"=some none
 cp:PySem.W.copiedNames.contains f=false
structure Meth(K:PySem.W.Frag)(C:Addr)(m:Str)(f:Addr):Prop where
 at_:PySem.W.findIn K (.ref C) m=some (some (.ref f))
 fn:PySem.W.isFn K (.ref f)=true
 kp:PySem.W.keepIn K (.ref f)=true
section
variable{X:Cx}{pins:List (Addr×Obj)}{σ:St}{H:Hp}{s:Shared}{a C dx:Addr}{fs:List (Str×V)}{f:Str}{v:V}{A:Around}{E:Value→Shared→Prop}
theorem Zu{b:Bool}{Q:Value→Shared→Prop}(I:Inv X pins σ H s)(e:H a=some (.ins C dx fs))(c:ua X.K C)(n:bN X.K C f)(l:fs.lookup f=some v)
  (h:∀u s',Inv X pins σ H s'→RelV v u→Q u s'):wpAny (model X.prog X.w) A (getAttr (.ref a) f b) Q E s:=by
 obtain⟨mA,O,r,_,_,_⟩:=qr I.bL e;obtain⟨u,hu,ru⟩:=jz.some_of (v:=v) (o:=mA f) (by rw[←l];exact r f);exact get_map I.oC O (c.get f) c.hd n hu (Ah ru) (h u _ (I.tok _) ru)
theorem l6{m:Str}{g:Addr}{pl:Sem Bool}{Q:Value×List Value→Shared→Prop}(I:Inv X pins σ H s)(e:H a=some (.ins C dx fs))(c:ua X.K C)(k:Meth X.K C m g)(l:fs.lookup m=none)
  (h:Q (.ref g,[.ref a]) s):wpAny (model X.prog X.w) A (getMethod (.ref a) m pl) Q E s:=by
 obtain⟨mA,O,r,_,_,_⟩:=qr I.bL e;have hn:mA m=none:=jz.none_of (by rw[←l];exact r m);exact BJ I.oC O (c.get m) k.at_ k.fn hn h
theorem ZZ{y:V}{u:Value}{Q:Unit→Shared→Prop}(I:Inv X pins σ H s)(e:H a=some (.ins C dx fs))(c:ua X.K C)(n:bN X.K C f)(hl:fs.length<1000)(ry:RelV y u)
  (h:∀s',Inv X pins σ (upd H a (.ins C dx (bf f y fs))) s'→Q () s'):wpAny (model X.prog X.w) A (setAttr (.ref a) f u) Q E s:=by
 obtain⟨mA,O,r,wi,_,ho⟩:=qr I.bL e;have hz:(fs.map (·.1)).length≤sizeLine:=by rw[List.length_map,sizeLine_eq];omega
 refine D9 I.oC O c.sa c.po n.KH c.hd wi hz fun h' O' sb=>h _ ?_
 have hd:∃o,h'.get? dx=some o:=let ⟨o,_,_,e',_⟩:=O'.ns;⟨o,e'⟩
 refine I.write (x:=a) (e:=dx) (by rw[e];exact True.intro) (.inr ho) (fun b q hb z=>(sb.2 b hb).trans z) hd ?_;refine⟨by rw[af O.ne];exact ho,?_,O.ne,O'.obj,_,O'.ns,fun g=>?_,fun g hg=>?_⟩
 ·have:=aU f y fs;omega
 ·show jz ((bf f y fs).lookup g) (if g=f then some u else mA g);rw[pM];by_cases q:g=f
  ·rw[Xo q,Xo q];exact ry
  ·rw[Xk q,Xk q];exact r g
 ·by_cases q:g=f
  ·rw[q];exact(oI f y fs).1
  ·refine(oI f y fs).2 g (wi g fun z=>hg ?_);show(if g=f then some u else mA g)=none;rw[Xk q];exact z
theorem Inv.made(I:Inv X pins σ H s):Inv X pins σ (upd (upd H s.heap.objs.size (.own (s.heap.objs.size+1))) (s.heap.objs.size+1) (.ins C s.heap.objs.size []))
  {s with heap:=(s.heap.push PySem.W.emptyDict).push (PySem.W.instObj C s.heap.objs.size)}:=by
 have e1:(s.heap.push PySem.W.emptyDict).get? s.heap.objs.size=some PySem.W.emptyDict:=Heap.get?_push_size s.heap rfl;have e2:((s.heap.push PySem.W.emptyDict).push (PySem.W.instObj C s.heap.objs.size)).get? (s.heap.objs.size+1)=some (PySem.W.instObj C s.heap.objs.size):=by
  have:=Heap.get?_push_size (s.heap.push PySem.W.emptyDict) (o:=PySem.W.instObj C s.heap.objs.size) rfl;rwa[Heap.size_push]at this
 have e3:(s.heap.push PySem.W.emptyDict).Ns s.heap.objs.size (fun _=>none):=⟨PySem.W.emptyDict,#[],_,e1,rfl,(fun e he=>absurd he Xr),fun _=>rfl⟩
 have I1:=I.laid (a:=s.heap.objs.size) (o:= .own (s.heap.objs.size+1)) (h':=s.heap.push PySem.W.emptyDict) (t':=s.toks) (fun b u q=>Xl q) (Nat.le_refl _) ⟨_,e1⟩;refine I1.laid (a:=s.heap.objs.size+1) (o:= .ins C s.heap.objs.size []) (t':=s.toks) (fun b u q=>Xl q) (Nat.le_of_eq (Heap.size_push _ _)) ?_;have ne:s.heap.objs.size≠s.heap.objs.size+1:=Nat.ne_of_lt (Nat.lt_succ_self _);refine⟨by rw[af ne,ae],Nat.zero_le _,ne,e2,fun _=>none,(Heap.Ns1.of_empty e3).at fun o q=>Xl q,fun _=>True.intro,fun y hy=>absurd rfl hy⟩
theorem D_{prog:Program}{w:World}{env:Env}{e:Expr}{f:Str}{pos:Pos}{s:Shared}{Q:Value→Shared→Prop}(hb:attributeBase e f env (eval e env)=eval e env)
  (h:wpAny (model prog w) A (eval e env) (fun o bT=>wpAny (model prog w) A (getAttr o f true) Q E bT) E s):wpAny (model prog w) A (eval (.Attribute e f pos) env) Q E s:=
 Attribute_any_ h (by rw[arm_eval_Attribute,hb])
end
inductive FH(K:PySem.W.Frag)(f:Str)(x:V)(H1:Hp)(Q:VK):Prop
 |mk (a:Addr) (C:Addr) (dx:Addr) (fs:List (Str×V)) (v:V) (_:x= .ref a) (_:H1 a=some (.ins C dx fs)) (_:ua K C) (_:bN K C f) (_:fs.lookup f=some v) (_:Q v H1):FH K f x H1 Q
def KI(K:PySem.W.Frag)(ta:TE)(f:Str):TE:=fun σ H Q=>ta σ H fun x H1=>FH K f x H1 Q
def KJ(K:PySem.W.Frag)(ta tv:TE)(f:Str):TS:=fun D σ H=>tv σ H fun y H1=>ta σ H1 fun x H2=>∃a C dx fs,x= .ref a∧H2 a=some (.ins C dx fs)∧ua K C∧bN K C f∧fs.length<1000∧
 D.nx σ (upd H2 a (.ins C dx (bf f y fs)))
section
variable{X:Cx}{o e value:Expr}{f:Str}{pos pos' Oq:Pos}{ta tv:TE}
theorem Hr(he:PE X e ta)(hb:attributeBase e f X.env (eval e X.env)=eval e X.env):PE X (.Attribute e f pos) (KI X.K ta f):=by
 intro pins s σ H Q I h;refine D_ hb (cj (he pins s σ H _ I h) fun u s1 ⟨x,H1,I1,rx,a,C,dx,fs,v,ex,ea,c,n,l,q⟩=>?_);subst ex;obtain rfl:u=Value.ref a:=rx;exact Zu I1 ea c n l fun u' s2 I2 ru=>⟨v,H1,I2,ru,q⟩
theorem Hs(ha:PE X o ta)(hv:PE X value tv)(hs:swapsWith value (some (.Attribute o f pos')) pos.line X.env=pure false):PS X (.Assign [.Attribute o f pos'] value pos) (KJ X.K ta tv f):=by
 intro pins s σ H D I h;refine plainObj_wpAny_Assign_Attribute (cj (hv pins s σ H _ I h) fun u s1 ⟨y,H1,I1,ry,q⟩=>cj (ha pins s1 σ H1 _ I1 q) fun ov s2 ⟨x,H2,I2,rx,a,C,dx,fs,ex,ea,c,n,l,q2⟩=>?_) hs;subst ex;obtain rfl:ov=Value.ref a:=rx;exact ZZ I2 ea c n l ry fun s3 I3=>⟨σ,_,I3,q2⟩
theorem FI{pl:Sem Bool}{m:Str}{apos:Pos}{args:List Expr}{pins:List (Addr×Obj)}{s:Shared}{σ:St}{H:Hp}{Q:Value→Shared→Prop}{te:TE}(he:PE X e te)(I:Inv X pins σ H s)
  (h:te σ H fun x H1=>∃a C dx fs g,x= .ref a∧H1 a=some (.ins C dx fs)∧ua X.K C∧Meth X.K C m g∧fs.lookup m=none∧
   ∀s1,Inv X pins σ H1 s1→wpAny (model X.prog X.w) X.A (callWith pos (.ref g) [.ref a] (backTo pos (starEach args X.env)) (backToKw pos (keywordEach [] X.env))) Q X.xe s1)
  (ht:eval (.Call (.Attribute e m apos) args [] pos) X.env=(do
   let ov←eval e X.env
   standAt apos.atName
   let (f,first)←holding [ov] (getMethod ov m pl)
   callWith pos f first (backTo pos (starEach args X.env)) (backToKw pos (keywordEach [] X.env)))):
  wpAny (model X.prog X.w) X.A (eval (.Call (.Attribute e m apos) args [] pos) X.env) Q X.xe s:=by
 refine PySem.W.methodCall_KW (pl:=pl) (cj (he pins s σ H _ I h) fun u s1 ⟨x,H1,I1,rx,a,C,dx,fs,g,ex,ea,c,k,l,q⟩=>?_) ht;subst ex;obtain rfl:u=Value.ref a:=rx;exact l6 I1 ea c k l (q s1 I1)
end
section
variable{X:Cx}{pins:List (Addr×Obj)}{σ:St}{H:Hp}{s:Shared}{A:Around}{E:Value→Shared→Prop}{Q:Value→Shared→Prop}{c:Value}{b:Bool}
inductive oJ(K:PySem.W.Frag)(H:Hp):V→Value→Prop where
 |cD:oJ K H .cD (.type "NoneType")
 |bl (x:Bool):oJ K H (.bl x) (.type "bool")
 |int (i:Int):oJ K H (.int i) (.type "int")
 |str (x:Str):oJ K H (.str x) (.type "str")
 |Fv (x:UInt64):oJ K H (.Fv x) (.type "float")
 |lst {a:Addr} {xs:List V} (e:H a=some (.lst xs)):oJ K H (.ref a) (.type "list")
 |qo {a:Addr} {o:Obj} {xs:List V} (e:H a=some (.qo o (.lst xs))):oJ K H (.ref a) (.type "list")
 |tup {a:Addr} {xs:List V} (e:H a=some (.tup xs)):oJ K H (.ref a) (.type "tuple")
 |dK {a:Addr} {kvs:List (Key×V)} (e:H a=some (.dK kvs)):oJ K H (.ref a) (.type "dict")
 |dT {a:Addr} {kvs:List (List Key×V)} (e:H a=some (.dT kvs)):oJ K H (.ref a) (.type "dict")
 |ins {a C dx:Addr} {fs:List (Str×V)} (e:H a=some (.ins C dx fs)) (cl:ua K C) (ha:PySem.W.findIn K (.ref C) "__class__"=some (some (.builtin "object.__class__")))
   (hn:PySem.W.specialIn K (.builtin "object.__class__") "__get__"=some (some (.builtin "getset_descriptor.__get__"))) (Q5:PySem.W.takesIn K (.builtin "object.__class__")=some true)
   (hm:PySem.W.mroIn K C (.type "object")=some true):oJ K H (.ref a) (.ref C)
theorem Ai{x:V}{u t:Value}(I:Inv X pins σ H s)(rx:RelV x u)(ty:oJ X.K H x t)(e:PySem.W.kitOne X.K t c=some b)(h:∀tk,Q (.bool b) {s with toks:=tk}):
  wpAny (model X.prog X.w) A (call (.builtin "isinstance") [u,c]) Q E s:=by
 cases ty with
 |cD=>cases(show u=Value.none from rx);exact PySem.W.kia_one PySem.W.kitx_none I.oC True.intro e (fun z=>nomatch z) h
 |bl y=>cases(show u=Value.bool y from rx);exact PySem.W.kia_one PySem.W.kitx_bool I.oC True.intro e (fun z=>nomatch z) h
 |int i=>obtain⟨t,q⟩:=(show ∃t,u=Value.int i t from rx);cases q;exact PySem.W.kia_one PySem.W.kitx_int I.oC True.intro e (fun z=>nomatch z) h
 |str y=>obtain⟨t,q⟩:=(show ∃t,u=Value.str y t from rx);cases q;exact PySem.W.kia_one PySem.W.kitx_str I.oC True.intro e (fun z=>nomatch z) h
 |Fv y=>obtain⟨t,q⟩:=(show ∃t,u=Value.float y t from rx);cases q;exact PySem.W.kia_one PySem.W.kitx_float I.oC True.intro e (fun z=>nomatch z) h
 |@lst a xs ea=>
  cases(show u=Value.ref a from rx);obtain⟨_,_,n,_,h1⟩:=(show cF X.prog X.w H s.heap a (.lst xs)from I.bL a _ ea)
  exact PySem.W.kia_one PySem.W.kitx_list I.oC ⟨_,h1,rfl⟩ e (fun z=>nomatch z) h
 |@qo a ob xs ea=>
  cases(show u=Value.ref a from rx);obtain⟨_,_,_,n,_,h1⟩:=(show cF X.prog X.w H s.heap a (.qo ob (.lst xs))from I.bL a _ ea)
  exact PySem.W.kia_one PySem.W.kitx_list I.oC ⟨_,h1,rfl⟩ e (fun z=>nomatch z) h
 |@tup a xs ea=>
  cases(show u=Value.ref a from rx);obtain⟨_,_,_,p⟩:=(show cF X.prog X.w H s.heap a (.tup xs)from I.bL a _ ea)
  obtain⟨o,h1,h2,_⟩:=p;exact PySem.W.kia_one PySem.W.kitx_tuple I.oC ⟨o,h1,h2⟩ e (fun z=>nomatch z) h
 |@dK a kvs ea=>
  cases(show u=Value.ref a from rx);obtain⟨_,_,vs,_,p⟩:=(show cF X.prog X.w H s.heap a (.dK kvs)from I.bL a _ ea)
  obtain⟨o,es,ep,h1,h2,_⟩:=p;exact PySem.W.kia_one PySem.W.kitx_dict I.oC ⟨o,h1,h2.1⟩ e (fun z=>nomatch z) h
 |@dT a kvs ea=>
  cases(show u=Value.ref a from rx);obtain⟨_,_,xs,_,o,es,ep,h1,h2,_⟩:=(show cF X.prog X.w H s.heap a (.dT kvs)from I.bL a _ ea)
  exact PySem.W.kia_one PySem.W.kitx_dict I.oC ⟨o,h1,h2.1⟩ e (fun z=>nomatch z) h
 |@ins a C dx fs ea cl ha hn Q5 hm=>
  cases(show u=Value.ref a from rx);obtain⟨mA,O,_⟩:=qr I.bL ea;obtain⟨od,J,_⟩:=O.look;exact PySem.W.kia_one (PySem.W.kitx_own (cl.get _) cl.hd ha hn Q5 hm) I.oC J e (fun z=>nomatch z) h
end
structure d7(cm:Bool)(k:Nat)(A:Around):Prop where
 hd:cm=true→A.handled=none
 dp:A.depth+3*k+5<recursionLimit
 un:A.units+16*k+200<cLine
theorem d7.mono{cm:Bool}{j k:Nat}{A:Around}(r:d7 cm k A)(h:j≤k):d7 cm j A:=⟨r.hd,by have:=r.dp;omega,by have:=r.un;omega⟩
theorem d7.deeper{cm:Bool}{k:Nat}{A:Around}(r:d7 cm (k+1) A)(env:Env):d7 cm k (A.deeper env):=
 ⟨r.hd,by have:=r.dp;show A.depth+1+3*k+5<_;omega,by have:=r.un;show A.units+3+16*k+200<_;omega⟩
theorem ZM{A:Around}{C:Addr}{us:List Value}{kw:List (Str×Value)}:(A.under (.builtin "type.__call__" ⟨.ref C::us,kw⟩)).depth=A.depth+1:=by
 first|rfl|simp[Around.under,Code.weight,Code.isCreation,Code.isGuard,Code.isCaller,Code.frames,Code.isFrame,guardIds]
theorem ZA{A:Around}{C:Addr}{us:List Value}{kw:List (Str×Value)}:(A.under (.builtin "type.__call__" ⟨.ref C::us,kw⟩)).units=A.units+1:=by
 first|rfl|simp[Around.under,Code.cUnits,Code.frames,Code.isFrame]
theorem d7.make{cm:Bool}{k:Nat}{A:Around}(r:d7 cm (k+1) A)(C:Addr)(us:List Value)(kw:List (Str×Value)):d7 cm k (A.under (.builtin "type.__call__" ⟨.ref C::us,kw⟩)):=
 ⟨r.hd,by have:=r.dp;rw[ZM];omega,by have:=r.un;rw[ZA];omega⟩
theorem d7.depth{cm:Bool}{k:Nat}{A:Around}(r:d7 cm k A):A.depth<recursionLimit:=by have:=r.dp;omega
theorem d7.units{cm:Bool}{k:Nat}{A:Around}(r:d7 cm k A):A.units+64<cLine:=by have:=r.un;omega
def BM:TA:=fun _ H Q=>Q [] H
def FJ(ta:TE)(tr:TA):TA:=fun σ H Q=>ta σ H fun x H1=>tr σ H1 fun xs H2=>Q (x::xs) H2
section
variable{X:Cx}{e:Expr}{es:List Expr}{te:TE}{t:TA}{pos:Pos}
theorem ai:PA X [] BM:=fun _ _ _ _ H Q I h=>Calls.spliced_nil ⟨[],H,I, .nil,h⟩
theorem Ea(ha:PE X e te)(hr:PA X es t)(hs:starEach (e::es) X.env=(false,eval e X.env)::starEach es X.env:=by rfl):PA X (e::es) (FJ te t):=by
 intro pos pins s σ H Q I h;rw[hs];show wpAny _ _ (spliced ((false,eval e X.env)::backTo pos (starEach es X.env))) _ _ s;refine Calls.spliced_cons (cj (ha pins s σ H _ I h) fun u s1 ⟨x,H1,I1,r1,q1⟩=>?_);exact cj (hr pos pins s1 σ H1 _ I1 q1) fun us s2 ⟨xs,H2,I2,r2,q2⟩=>⟨x::xs,H2,I2, .cons r1 r2,q2⟩
def Ot(t:TA):TE:=fun σ H Q=>t σ H fun xs H1=>xs.length≤sizeLine∧∀p,H1 p=none→Q (.ref p) (upd H1 p (.tup xs))
def Ou(t:TA):TE:=fun σ H Q=>t σ H fun xs H1=>xs.length≤sizeLine∧∀p,H1 p=none→Q (.ref p) (upd H1 p (.lst xs))
theorem fv{x1}(h:PA X es t):PE X (.Tuple es x1 pos) (Ot t):=by
 intro pins s σ H Q I hq;refine wpAny_Tuple_spliced (cj (h pos pins s σ H _ I hq) fun us s1 ⟨xs,H1,I1,r,z,q⟩=>⟨by rw[←r.length];exact z,?_⟩);have hf:H1 s1.heap.objs.size=none:=I1.bL.fresh (Nat.le_refl _);refine⟨.ref s1.heap.objs.size,upd H1 s1.heap.objs.size (.tup xs),I1.laid (t':=s1.toks) (fun b u e=>Xl e) (Nat.le_refl _) ?_,rfl,q _ hf⟩;exact⟨z,us,r,⟨_,Heap.get?_push_size _ rfl,rfl,_,rfl⟩⟩
theorem cA(h:PA X es t):PE X (.List es pos) (Ou t):=by
 intro pins s σ H Q I hq;refine wpAny_List_spliced (cj (h pos pins s σ H _ I hq) fun us s1 ⟨xs,H1,I1,r,z,q⟩=>⟨by rw[←r.length];exact z,?_⟩);have hf:H1 s1.heap.objs.size=none:=I1.bL.fresh (Nat.le_refl _);refine⟨.ref s1.heap.objs.size,upd H1 s1.heap.objs.size (.lst xs),I1.laid (t':=s1.toks) (fun b u e=>Xl e) (Nat.le_refl _) ?_,rfl,q _ hf⟩;exact⟨z,us,0,r,Heap.get?_push_size _ rfl⟩
end
abbrev Sp:=List V→Hp→VK→XK→Prop
abbrev BN:=List Env→Hp→Shared→XK→Value→Shared→Prop
structure XW(P:Program)(w:World)(K:PySem.W.Frag)(mg:Str→Option Value)(base:Heap)(A:Around)(outer:List Env)(s:Shared)(H:Hp):Prop where
 frames:A.frames=some outer
 mod:Mod K mg base
 bs:∀b o,base.get? b=some o→s.heap.get? b=some o∧H b=none
 G8:base.objs.size≤s.heap.objs.size
 r_:s.heap.FunFrames base outer
 Ki:∀b∈mQ outer,H b=none
 bL:kb P w H s.heap
 bare:AllBare s.gens
def CE(outer:List Env)(P:Program)(w:World)(H:Hp)(s:Shared)(Q:VK)(u:Value)(s':Shared):Prop:=
 ∃v H',s'.os=s.os∧AllBare s'.gens∧Un (mQ outer) [] H H' s.heap s'.heap∧kb P w H' s'.heap∧RelV v u∧Q v H'
def CR(CX:BN)(outer:List Env)(P:Program)(w:World)(H:Hp)(s:Shared)(Q:VK)(E:XK)(r:Result)(s':Shared):Prop:=
 match r with
 | .ok (.ret u)=>CE outer P w H s Q u s'
 | .ok _=>False
 | .error e=>CX outer H s E e s'
structure aY(P:Program)(w:World)(K:PySem.W.Frag)(mg:Str→Option Value)(base:Heap)(CX:BN)(cm:Bool)(k:Nat)(f:Addr)(fd:FuncData)(ps:List Str)(sp:Sp):Prop where
 len:∀vs H Q E,sp vs H Q E→vs.length=ps.length
 run:∀(A:Around)(outer:List Env)(s:Shared)(H:Hp)(args:Args)(us:List Value)(vs:List V)(Q:VK)(E:XK),d7 cm k A→XW P w K mg base A outer s H→BindsTo s fd args (ps.zip us)→Vals vs us→sp vs H Q E→
  codeAny (model P w) A (.call (.ref f) args) (CR CX outer P w H s Q E) s
theorem XW.make{P:Program}{w:World}{K:PySem.W.Frag}{mg:Str→Option Value}{base:Heap}{A:Around}{outer:List Env}{s:Shared}{H:Hp}(e:XW P w K mg base A outer s H)(C:Addr)(us:List Value)(kw:List (Str×Value)):
  XW P w K mg base (A.under (.builtin "type.__call__" ⟨.ref C::us,kw⟩)) outer s H:=⟨by first|exact e.frames|(simpa[Around.under,Code.envs,Code.isFrame,pushEnvs]using e.frames),e.mod,e.bs,e.G8,e.r_,e.Ki,e.bL,e.bare⟩
section
variable{X:Cx}{pins:List (Addr×Obj)}{σ:St}{H:Hp}{s s':Shared}
theorem Inv.Ht(I:Inv X pins σ H s):XW X.prog X.w X.K X.mg X.base X.A X.stack s H:=
 ⟨I.ok.frames,I.ok.mod,I.bs,Nat.le_trans I.ok.G8 I.sz,I.stack,I.t8,I.bL,I.bare⟩
theorem Inv.after{Q:VK}{u:Value}(I:Inv X pins σ H s)(h:CE X.stack X.prog X.w H s Q u s'):EP X pins σ Q u s':=by
 obtain⟨v,H',os,bare,un,bL,r,q⟩:=h;obtain⟨hh,g,d,t,TC⟩:=s';obtain rfl:TC=s.os:=os;exact⟨v,H',I.call (h':=hh) (g':=g) (d':=d) (t':=t) (ch:=[]) un bL bare (fun b z=>absurd z Xr),r,q⟩
end
def FK(sp:Sp)(k_:List V)(E:St→XK)(t:TA):TE:=fun σ H Q=>t σ H fun vs H1=>sp (vs++k_) H1 Q (E σ)
def YA(C:Addr)(m:Str)(sp:Sp)(k_:List V)(E:St→XK)(ta:TE)(t:TA):TE:=fun σ H Q=>ta σ H fun x H1=>∃a dx fs,x= .ref a∧H1 a=some (.ins C dx fs)∧fs.lookup m=none∧
 t σ H1 fun vs H2=>sp (x::(vs++k_)) H2 Q (E σ)
def Y2(C:Addr)(sp:Sp)(k_:List V)(E:St→XK)(t:TA):TE:=fun σ H Q=>t σ H fun vs H1=>∀x dx,H1 x=none→H1 dx=none→dx≠x→
 sp (.ref x::(vs++k_)) (upd (upd H1 dx (.own x)) x (.ins C dx [])) (fun v H2=>v= .cD∧Q (.ref x) H2) (E σ)
def Binds(K:PySem.W.Frag)(fd:FuncData)(ps:List Str)(ds:List Value):Prop:=
 ∀(s:Shared)(us:List Value),K.In s.heap→(us++ds).length=ps.length→BindsTo s fd ⟨us,[]⟩ (ps.zip (us++ds))
theorem Binds.all{K:PySem.W.Frag}{fd:FuncData}{ps:List Str}(h:∀us:List Value,us.length=ps.length→bindArgs fd ⟨us,[]⟩=pure (ps.zip us)):Binds K fd ps []:=fun s us _ hl=>by
 rw[List.append_nil]at hl⊢;exact .of_eq (h us hl)
def Passes(CX:BN)(X:Cx)(E:St→XK):Prop:=∀(pins:List (Addr×Obj))(σ:St)(H:Hp)(s:Shared)(e:Value)(s':Shared),Inv X pins σ H s→CX X.stack H s (E σ) e s'→X.xe e s'
section
variable{X:Cx}{CX:BN}{cm:Bool}{k:Nat}{f C:Addr}{fd:FuncData}{ps:List Str}{sp:Sp}{k_:List V}{ds:List Value}{E:St→XK}{x m:Str}{p pos apos:Pos}{e o:Expr}{es:List Expr}{ta:TE}{t:TA}
theorem YI{pins:List (Addr×Obj)}{σ:St}{H:Hp}{s:Shared}{Q:VK}{us:List Value}{vs:List V}(F:aY X.prog X.w X.K X.mg X.base CX cm k f fd ps sp)(hr:d7 cm k X.A)(hb:Binds X.K fd ps ds)(hd:Vals k_ ds)(hx:Passes CX X E)
  (I:Inv X pins σ H s) (r:Vals vs us) (h:sp (vs++k_) H Q (E σ)):wpAny (model X.prog X.w) X.A (call (.ref f) us) (EP X pins σ Q) X.xe s:=by
 have r2:Vals (vs++k_) (us++ds):=r.append hd;have hl:(us++ds).length=ps.length:=by rw[←r2.length];exact F.len _ _ _ _ h
 refine wpAny_call (codeAny_mono (F.run X.A X.stack s H ⟨us,[]⟩ (us++ds) (vs++k_) Q (E σ) hr I.Ht (hb s us I.oC hl) r2 h) fun r s' hq=>?_);cases r with
 |error e=>exact hx pins σ H s e s' I hq
 |ok fl=>
  cases fl with
  |ret u=>exact I.after hq
  |next=>exact False.elim hq
  |brk=>exact False.elim hq
  |cont=>exact False.elim hq
theorem Eb(F:aY X.prog X.w X.K X.mg X.base CX cm k f fd ps sp)(hr:d7 cm k X.A)(hg:Gl X x)(hm:X.mg x=some (.ref f))(hk:PySem.W.keepIn X.K (.ref f)=true)(hb:Binds X.K fd ps ds)(hd:Vals k_ ds)(hx:Passes CX X E)
  (ha:PA X (e::es) t) (ub:(x==("__debug__":Str))=false:=by decide) (he:starEach (e::es) X.env=(false,eval e X.env)::starEach es X.env:=by rfl) (pN:(backTo pos (starEach es X.env)).any (·.1)=false:=by rfl):
  PE X (.Call (.Name x p) (e::es) [] pos) (FK sp k_ E t):=by
 intro pins s σ H Q I h;refine wpAny_Call_Name_kw (mU I hg hm ?_ ub);refine PySem.W.callWith_K (h₀:=X.base) I.ok.mod.JD hk (cj (ha pos pins s σ H _ I h) fun us s1 ⟨vs,H1,I1,r,q⟩=>⟨I1.oC,?_⟩) he pN;exact YI F hr hb hd hx I1 r q
theorem Ec{pl:Sem Bool}(he:PE X o ta)(c:ua X.K C)(hm:Meth X.K C m f)(F:aY X.prog X.w X.K X.mg X.base CX cm k f fd ps sp)(hr:d7 cm k X.A)(hb:Binds X.K fd ps ds)(hd:Vals k_ ds)(hx:Passes CX X E)(ha:PA X (e::es) t)
  (tm:starEach (e::es) X.env=(false,eval e X.env)::starEach es X.env:=by rfl) (pN:(backTo pos (starEach es X.env)).any (·.1)=false:=by rfl)
  (ht:eval (.Call (.Attribute o m apos) (e::es) [] pos) X.env=(do
   let ov←eval o X.env
   standAt apos.atName
   let (f,first)←holding [ov] (getMethod ov m pl)
   callWith pos f first (backTo pos (starEach (e::es) X.env)) (backToKw pos (keywordEach [] X.env))):=by rfl):
  PE X (.Call (.Attribute o m apos) (e::es) [] pos) (YA C m sp k_ E ta t):=by
 intro pins s σ H Q I h;refine PySem.W.methodCall_KW (pl:=pl) (cj (he pins s σ H _ I h) fun u s1 ⟨x,H1,I1,rx,a,dx,fs,ex,ea,l,q⟩=>?_) ht;subst ex;obtain rfl:u=Value.ref a:=rx;refine l6 I1 ea c hm l ?_;refine PySem.W.callWith_K (first:=[.ref a]) (h₀:=X.base) I.ok.mod.JD hm.kp (cj (ha pos pins s1 σ H1 _ I1 q) fun us s2 ⟨vs,H2,I2,r,q2⟩=>⟨I2.oC,?_⟩) tm pN;exact YI (us:= .ref a::us) (vs:= .ref a::vs) F hr hb hd hx I2 (.cons rfl r) q2
theorem BO{pl:Sem Bool}(he:PE X o ta)(c:ua X.K C)(hm:Meth X.K C m f)(F:aY X.prog X.w X.K X.mg X.base CX cm k f fd ps sp)(hr:d7 cm k X.A)(hb:Binds X.K fd ps ds)(hd:Vals k_ ds)(hx:Passes CX X E)
  (ht:eval (.Call (.Attribute o m apos) [] [] pos) X.env=(do
   let ov←eval o X.env
   standAt apos.atName
   let (f,first)←holding [ov] (getMethod ov m pl)
   callWith pos f first (backTo pos (starEach [] X.env)) (backToKw pos (keywordEach [] X.env))):=by rfl):
  PE X (.Call (.Attribute o m apos) [] [] pos) (YA C m sp k_ E ta BM):=by
 intro pins s σ H Q I h;refine PySem.W.methodCall_KW (pl:=pl) (cj (he pins s σ H _ I h) fun u s1 ⟨x,H1,I1,rx,a,dx,fs,ex,ea,l,q⟩=>?_) ht;subst ex;obtain rfl:u=Value.ref a:=rx;refine l6 I1 ea c hm l ?_;exact PySem.W.callWith_K0 (first:=[.ref a]) I1.oC hm.kp (YI (us:=[.ref a]) (vs:=[.ref a]) F hr hb hd hx I1 (.cons rfl .nil) q)
structure Mk(K:PySem.W.Frag)(C f:Addr):Prop where
 makes:PySem.W.makesIn K C=true
 init:PySem.W.findIn K (.ref C) "__init__"=some (some (.ref f))
 fn:PySem.W.isFn K (.ref f)=true
 kp:PySem.W.keepIn K (.ref C)=true
theorem vX{pins:List (Addr×Obj)}{σ:St}{H:Hp}{s:Shared}{Q:VK}{us:List Value}{vs:List V}(M:Mk X.K C f)(F:aY X.prog X.w X.K X.mg X.base CX cm k f fd ps sp)(hr:d7 cm (k+1) X.A)(hb:Binds X.K fd ps ds)(hd:Vals k_ ds)
  (hx:Passes CX X E) (I:Inv X pins σ H s) (r:Vals vs us)
  (h:∀x dx,H x=none→H dx=none→dx≠x→sp (.ref x::(vs++k_)) (upd (upd H dx (.own x)) x (.ins C dx [])) (fun v H2=>v= .cD∧Q (.ref x) H2) (E σ)):
  wpAny (model X.prog X.w) X.A (call (.ref C) us) (EP X pins σ Q) X.xe s:=by
 have hq:=h (s.heap.objs.size+1) s.heap.objs.size (I.bL.fresh (Nat.le_succ _)) (I.bL.fresh (Nat.le_refl _)) (Nat.ne_of_lt (Nat.lt_succ_self _));have I2:=Inv.made (C:=C) I;have r2:Vals (V.ref (s.heap.objs.size+1)::(vs++k_)) (Value.ref (s.heap.objs.size+1)::(us++ds)):= .cons rfl (r.append hd);have hl:(Value.ref (s.heap.objs.size+1)::us++ds).length=ps.length:=by
  have e:=r2.length;rw[F.len _ _ _ _ hq]at e;exact e.symm
 refine wpAny_call (BK (f:=f) I.oC M.makes M.init (beq_iff_eq.mp M.fn) (codeAny_mono (F.run _ X.stack _ _ ⟨Value.ref (s.heap.objs.size+1)::us,[]⟩ (Value.ref (s.heap.objs.size+1)::(us++ds)) _ _ (E σ) (hr.make C us [])
  (I2.Ht.make C us []) (hb _ (Value.ref (s.heap.objs.size+1)::us) I2.oC hl) r2 hq) fun r s' KL=>?_))
 cases r with
 |error e=>exact hx pins σ _ _ e s' I2 KL
 |ok fl=>
  cases fl with
  |ret u=>
   obtain⟨v,H',I3,rv,ev,q3⟩:=I2.after KL;subst ev;exact⟨rv,⟨V.ref (s.heap.objs.size+1),H',I3,rfl,q3⟩⟩
  |next=>exact False.elim KL
  |brk=>exact False.elim KL
  |cont=>exact False.elim KL
theorem Ed(M:Mk X.K C f)(F:aY X.prog X.w X.K X.mg X.base CX cm k f fd ps sp)(hr:d7 cm (k+1) X.A)(hg:Gl X x)(hm:X.mg x=some (.ref C))(hb:Binds X.K fd ps ds)(hd:Vals k_ ds)(hx:Passes CX X E)
  (ha:PA X (e::es) t) (ub:(x==("__debug__":Str))=false:=by decide) (he:starEach (e::es) X.env=(false,eval e X.env)::starEach es X.env:=by rfl) (pN:(backTo pos (starEach es X.env)).any (·.1)=false:=by rfl):
  PE X (.Call (.Name x p) (e::es) [] pos) (Y2 C sp k_ E t):=by
 intro pins s σ H Q I h;refine wpAny_Call_Name_kw (mU I hg hm ?_ ub);refine PySem.W.callWith_K (h₀:=X.base) I.ok.mod.JD M.kp (cj (ha pos pins s σ H _ I h) fun us s1 ⟨vs,H1,I1,r,q⟩=>⟨I1.oC,?_⟩) he pN;exact vX M F hr hb hd hx I1 r q
theorem BP(M:Mk X.K C f)(F:aY X.prog X.w X.K X.mg X.base CX cm k f fd ps sp)(hr:d7 cm (k+1) X.A)(hg:Gl X x)(hm:X.mg x=some (.ref C))(hb:Binds X.K fd ps ds)(hd:Vals k_ ds)(hx:Passes CX X E)
  (ub:(x==("__debug__":Str))=false:=by decide):PE X (.Call (.Name x p) [] [] pos) (Y2 C sp k_ E BM):=by
 intro pins s σ H Q I h;refine wpAny_Call_Name_kw (mU I hg hm ?_ ub);exact PySem.W.callWith_K0 I.oC M.kp (vX (us:=[]) M F hr hb hd hx I .nil h)
end
section
variable{X:Cx}{CX:BN}{cm:Bool}{k:Nat}{f C:Addr}{fd:FuncData}{ps ks:List Str}{sp:Sp}{E:St→XK}{x m:Str}{p pos apos TK:Pos}{e o:Expr}{es:List Expr}{Wm:List Keyword}{te ta:TE}{t tk:TA}{nm:Option Str}
variable{g:List Value→List Value→List Value}{gV:List V→List V→List V}
end
structure aJ(N P:List Str)(sc:Scope):Prop where
 kind:sc.kind= .function
 co:sc.isCoroutine=false
 gen:sc.isGenerator=false
 nd:N.Nodup
 pre:N.take P.length=P
 par:∀x∈P,sc.names.lookup x=some .local∨sc.names.lookup x=some .cell
 Hu:∀y∈sc.names,y.2≠ .free
theorem tw{kindOf:Str→Option NameKind}{x:Str}:∀{binds:List (Str×Value)}{m:Str→Option Value},(∀v,(x,v)∉binds)→bindL kindOf binds m x=m x
 |[],_,_=>rfl
 |(n,v)::r,m,h=>by
  unfold bindL;rw[tw fun w hw=>h w (List.mem_cons_of_mem _ hw)];split
  ·have:x≠n:=by rintro rfl;exact h v List.mem_cons_self
   simp[this]
  ·rfl
theorem tD{kindOf:Str→Option NameKind}{x:Str}:∀{binds:List (Str×Value)}{m:Str→Option Value},(∀v,(x,v)∉binds)→bindC kindOf binds m x=m x
 |[],_,_=>rfl
 |(n,v)::r,m,h=>by
  unfold bindC;rw[tD fun w hw=>h w (List.mem_cons_of_mem _ hw)];split
  ·rfl
  ·have:x≠n:=by rintro rfl;exact h v List.mem_cons_self
   simp[this]
theorem tE{kindOf:Str→Option NameKind}{x:Str}{v:Value}:∀{P:List Str}{vs:List Value}{i:Nat}{m:Str→Option Value},P.Nodup→P[i]?=some x→vs[i]?=some v→kindOf x=some .local→
  bindL kindOf (P.zip vs) m x=some v
 |[],_,_,_,_,h,_,_=>by simp at h
 | _::_,[],_,_,_,_,h,_=>by simp at h
 |p::P,w::vs,0,m,nd,h1,h2,hk=>by
  simp at h1 h2;subst h1;subst h2;show bindL kindOf ((p,w)::P.zip vs) m p=_;unfold bindL;rw[tw fun v hv=>(List.nodup_cons.mp nd).1 (List.of_mem_zip hv).1,Xo hk];simp
 |p::P,w::vs,i+1,m,nd,h1,h2,hk=>by
  show bindL kindOf ((p,w)::P.zip vs) m x=_;unfold bindL;exact tE (i:=i) (List.nodup_cons.mp nd).2 (by simpa using h1) (by simpa using h2) hk
theorem tF{kindOf:Str→Option NameKind}{x:Str}{v:Value}:∀{P:List Str}{vs:List Value}{i:Nat}{m:Str→Option Value},P.Nodup→P[i]?=some x→vs[i]?=some v→kindOf x≠some .local→
  bindC kindOf (P.zip vs) m x=some v
 |[],_,_,_,_,h,_,_=>by simp at h
 | _::_,[],_,_,_,_,h,_=>by simp at h
 |p::P,w::vs,0,m,nd,h1,h2,hk=>by
  simp at h1 h2;subst h1;subst h2;show bindC kindOf ((p,w)::P.zip vs) m p=_;unfold bindC;rw[tD fun v hv=>(List.nodup_cons.mp nd).1 (List.of_mem_zip hv).1,Xk hk];simp
 |p::P,w::vs,i+1,m,nd,h1,h2,hk=>by
  show bindC kindOf ((p,w)::P.zip vs) m x=_;unfold bindC;exact tF (i:=i) (List.nodup_cons.mp nd).2 (by simpa using h1) (by simpa using h2) hk
def start(N:List Str)(vs:List V):St:=vs.map some++List.replicate (N.length-vs.length) none
def XY(CX:BN)(cm:Bool)(P:Program)(w:World)(K:PySem.W.Frag)(mg:Str→Option Value)(base:Heap)(N:List Str)(qual:Str)(scope:Scope)(f:Addr)(cd:Value)(A:Around)(outer:List Env)(s:Shared)(H:Hp)(E:XK):Cx where
 prog:=P
 w:=w
 K:=K
 mg:=mg
 base:=base
 A:=A.deeper (envOfC qual scope s.heap.objs.size f cd)
 N:=N
 cU:=s
 d8:=H
 env:=envOfC qual scope s.heap.objs.size f cd
 outer:=outer
 stack:=envOfC qual scope s.heap.objs.size f cd::outer
 ex:=[]
 calm:=cm
 fn:=fun _=>true
 pn:=[]
 xe:=fun e s'=>wpAny (model P w) (A.deeper (envOfC qual scope s.heap.objs.size f cd)) (leaving (envOfC qual scope s.heap.objs.size f cd) e) (fun _ uc=>CX outer H s E e uc) (fun e' uc=>CX outer H s E e' uc) s'
theorem vY{sc:Scope}{n:Nat}{x:Str}(h:sc.names.lookup x=some .cell):∃c,(cellsFrom n sc.names []).lookup x=some c:=by
 have q:=PySem.W.cellsFrom_some sc.names n [] (.inl h);exact Option.isSome_iff_exists.mp q
theorem Aj{CX:BN}{cm:Bool}{P:Program}{w:World}{K:PySem.W.Frag}{mg:Str→Option Value}{base:Heap}{N ps:List Str}{qual:Str}{scope:Scope}{f:Addr}{cd:Value}{A:Around}{outer:List Env}{s s1:Shared}{H:Hp}{E:XK}{us:List Value}{vs:List V}
  (S:aJ N ps scope) (hd:cm=true→A.handled=none) (e0:XW P w K mg base A outer s H) (hl:vs.length=ps.length) (r:Vals vs us)
  (x:InCallC s s.heap.objs.size (bindL (envOfC qual scope s.heap.objs.size f cd).kindOf (ps.zip us) fun _=>none) (cellsFrom (s.heap.objs.size+1) scope.names []) (bindC (envOfC qual scope s.heap.objs.size f cd).kindOf (ps.zip us) fun _=>none) s1):
  Inv (XY CX cm P w K mg base N qual scope f cd A outer s H E) [] (start N vs) H s1:=by
 have pN:ps.length≤N.length:=by have:=congrArg List.length S.pre;rw[List.length_take]at this;omega
 obtain⟨h1,tk,rfl,hk⟩:=x.done;have KN:∀b:Addr,b∉(XY CX cm P w K mg base N qual scope f cd A outer s H E).ex:=fun b z=>absurd (show b∈([]:List Addr)from z) (XA)
 refine⟨⟨e0.mod,S.kind,rfl,rfl,Nat.le_refl _,fun y z c h1 h2=>?_,fun y hy=>?_,fun y c _ h=>?_,fun z=>hd z,Around.frames_deeper e0.frames, .inr ⟨rfl,rfl⟩,fun b z=>absurd z (KN b),e0.bs,e0.G8,fun b _ _=>KN b,fun b z=>absurd z (KN b),e0.r_,e0.Ki⟩,
  rfl,e0.bare,Un.kept hk,⟨_,x.toInCall.ns,fun i y v h1 h2 h3=>?_⟩,fun y c h=>⟨_,x.cell y c h⟩,e0.bL.fresh (Nat.le_refl _),fun y c h=>?_,fun p hp=>absurd (show p∈([]:List (Addr×Obj))from hp) (XA),e0.bL.kept hk,?_⟩
 ·exact name_of_addr x.apart (PySem.mem_of_lookup h1) (PySem.mem_of_lookup h2)
 ·have hy:scope.names.lookup y=some .cell∨scope.names.lookup y=some .free:=hy;rcases hy with hy|hy
  ·exact vY hy
  ·exact absurd rfl (S.Hu _ (PySem.mem_of_lookup hy))
 ·exact Nat.le_of_lt (x.above y c (PySem.mem_of_lookup h))
 ·have hi:i<vs.length:=by
   unfold start at h2;by_cases hi:i<vs.length
   ·exact hi
   ·rw[List.getElem?_append_right (by simpa using hi)]at h2;rw[List.getElem?_replicate]at h2;split at h2<;>cases h2
  have ha:vs[i]?=some v:=by
   unfold start at h2;rw[List.getElem?_append_left (by simpa using hi),List.getElem?_map]at h2;cases e:vs[i]? with
   |none=>rw[e]at h2;cases h2
   |some a=>rw[e]at h2;cases h2;rfl
  obtain⟨u,hu,rv⟩:=r.get ha;have hp:ps[i]?=some y:=by
   rw[←S.pre,List.getElem?_take_of_lt Xs];exact h1
  have Q6:ps.Nodup:=by rw[←S.pre];exact S.nd.sublist (List.take_sublist _ _)
  refine⟨u,rv,?_⟩;rcases S.par y (Xi hp)with k|k
  ·exact .inl ⟨k,tE Q6 hp hu k⟩
  ·obtain⟨c,e⟩:=vY (n:=s.heap.objs.size+1) k;refine .inr ⟨.inl k,c,e,?_⟩;have q:=x.cell y c e;rw[tF Q6 hp hu (by show scope.names.lookup y≠_;rw[k];decide)]at q;exact q
 ·exact e0.bL.fresh (Nat.le_of_lt (x.above y c (PySem.mem_of_lookup h)))
 ·unfold start;show _=N.length;rw[List.length_append,List.length_map,List.length_replicate];omega
theorem FN{CX:BN}{cm:Bool}{P:Program}{w:World}{K:PySem.W.Frag}{mg:Str→Option Value}{base:Heap}{k:Nat}{f:Addr}{name qual:Str}{params:Arguments}{body:List Stmt}{scope:Scope}{dV kV doc pm bY ct oc:Value}{an od:Option Addr}
  {XM:Array (Option Value)} {N ps:List Str} {sp:Sp} (lk:K.lookup f=some ⟨oc,od, .func (PySem.W.fnOf name qual params body scope dV kV doc pm an bY ct),XM⟩) (Ab:PySem.W.codeIn K bY qual=true) (S:aJ N ps scope)
  (len:∀vs H Q E,sp vs H Q E→vs.length=ps.length)
  (vZ:∀(A:Around)(outer:List Env)(s:Shared)(H:Hp)(vs:List V)(Q:VK)(E:XK),d7 cm k (A.deeper (envOfC qual scope s.heap.objs.size f bY))→sp vs H Q E→
   ∃t,Aa (XY CX cm P w K mg base N qual scope f bY A outer s H E) body t∧t {nx:=fun _ H'=>Q .cD H',rt:=Q} (start N vs) H):
  aY P w K mg base CX cm (k+1) f (PySem.W.fnOf name qual params body scope dV kV doc pm an bY ct) ps sp:=by
 refine⟨len,fun A outer s H args us vs Q E hr e0 hb r DM=>?_⟩;have hl:=len _ _ _ _ DM;have KX:K.In s.heap:=e0.mod.JD.keeps fun b o e=>(e0.bs b o e).1
 have lim:s.heap.NoLimit:=e0.mod.nolimit.keeps fun b o e=>(e0.bs b o e).1
 have KO:∀y∈ps.zip us,scope.names.lookup y.1=some .local∨(scope.names.lookup y.1=some .cell∧((cellsFrom (s.heap.objs.size+1) scope.names []).lookup y.1).isSome=true):=fun⟨n,v⟩ hy=>by
  rcases S.par n (List.of_mem_zip hy).1 with q|q
  ·exact .inl q
  ·exact .inr ⟨q,PySem.W.cellsFrom_some _ _ _ (.inl q)⟩
 refine codeAny_call_function hr.depth (KX _ _ lk) rfl S.co S.gen rfl (PySem.W.codeRec_of KX Ab) (hb _ _ _ _ ?_);refine wpAny_newFunctionEnv_cells S.kind KO fun env he s1 x=>?_
 subst he;refine⟨lim.keeps x.toInCall.keep,codeAny_func ?_⟩;obtain⟨t,ht,hq⟩:=vZ A outer s H vs Q E (hr.deeper _) DM;have I:Inv (XY CX cm P w K mg base N qual scope f bY A outer s H E) [] (start N vs) H s1:=Aj S hr.hd e0 hl r x;refine wpAny_mono (ht [] s1 (start N vs) H _ I hq) (fun fl s' hs=>?_) fun e s' hs=>hs
 have fin:∀{bo:St}{H':Hp}{v:V}{u:Value},Inv (XY CX cm P w K mg base N qual scope f bY A outer s H E) [] bo H' s'→RelV v u→Q v H'→CE outer P w H s Q u s':=
  fun{bo H' v u} J rv q=>⟨v,H',J.os,J.bare,J.base,J.bL,rv,q⟩
 cases fl with
 |ret u=>
  obtain⟨v,bo,H',J,rv,q⟩:=hs;exact fin J rv q
 |next=>
  obtain⟨bo,H',J,q⟩:=hs;exact fin (v:=V.cD) (u:=Value.none) J rfl q
 |brk=>
  obtain⟨_,_,_,q⟩:=hs;exact False.elim q
 |cont=>
  obtain⟨_,_,_,q⟩:=hs;exact False.elim q
section
variable{X:Cx}{x:Str}{p pos:Pos}{e:Expr}{es:List Expr}{t:TA}{id T:String}{r:List V→Hp→VK→Prop}
def Q7(r:List V→Hp→VK→Prop)(t:TA):TE:=fun σ H Q=>t σ H fun vs H1=>r vs H1 Q
theorem aM(hc:h_ X (.builtin id) r)(hg:Gl X x)(hm:X.mg x=none)(hv:bootBuiltins x=some (.builtin id))(ha:PA X (e::es) t)(hn:x≠"__name__":=by decide)(ub:(x==("__debug__":Str))=false:=by decide)
  (he:starEach (e::es) X.env=(false,eval e X.env)::starEach es X.env:=by rfl) (pN:(backTo pos (starEach es X.env)).any (·.1)=false:=by rfl):PE X (.Call (.Name x p) (e::es) [] pos) (Q7 r t):=by
 intro pins s σ H Q I h;refine wpAny_Call_Name_kw (kg I hg hm hv ?_ hn ub);exact PyProof.Rows.callWith_builtin1 (cj (ha pos pins s σ H _ I h) fun us s1 ⟨vs,H1,I1,r1,q1⟩=>hc pins s1 σ H1 vs us Q I1 r1 q1) he pN
theorem hJ(hc:h_ X (.type T) r)(hg:Gl X x)(hm:X.mg x=none)(hv:bootBuiltins x=some (.type T))(ha:PA X (e::es) t)(hn:x≠"__name__":=by decide)(ub:(x==("__debug__":Str))=false:=by decide)
  (he:starEach (e::es) X.env=(false,eval e X.env)::starEach es X.env:=by rfl) (pN:(backTo pos (starEach es X.env)).any (·.1)=false:=by rfl):PE X (.Call (.Name x p) (e::es) [] pos) (Q7 r t):=by
 intro pins s σ H Q I h;refine wpAny_Call_Name_kw (kg I hg hm hv ?_ hn ub);exact PyProof.Rows.callWith_type1 (cj (ha pos pins s σ H _ I h) fun us s1 ⟨vs,H1,I1,r1,q1⟩=>hc pins s1 σ H1 vs us Q I1 r1 q1) he pN
end
section
variable{κ:Type}[DecidableEq κ]
def bj(kvs:List (κ×V))(k:κ):Option V:=(kvs.find? fun kv=>decide (kv.1=k)).map (·.2)
def putK(kvs:List (κ×V))(k:κ)(v:V):List (κ×V):=
 if (kvs.any fun kv=>decide (kv.1=k))=true then kvs.map (fun kv=>if kv.1=k then(kv.1,v)else kv)else kvs++[(k,v)]
def ie(kvs:List (κ×V))(k:κ):List (κ×V):=kvs.filter fun kv=>decide (kv.1≠k)
theorem v5{k:κ}:bj ([]:List (κ×V)) k=none:=rfl
theorem cf{p:κ×V}{r:List (κ×V)}{k:κ}(e:p.1=k):bj (p::r) k=some p.2:=by simp[bj,List.find?_cons,e]
theorem bW{p:κ×V}{r:List (κ×V)}{k:κ}(e:¬p.1=k):bj (p::r) k=bj r k:=by simp[bj,List.find?_cons,e]
theorem gC(k:κ):∀kvs:List (κ×V),(kvs.any fun kv=>decide (kv.1=k))=(bj kvs k).isSome
 |[]=>rfl
 |p::r=>by
  rw[List.any_cons];by_cases e:p.1=k
  ·simp only[cf e,decide_eq_true e,Bool.true_or,Option.isSome_some]
  ·rw[bW e,decide_eq_false e,Bool.false_or];exact gC k r
theorem v7(k j:κ)(y:V):∀kvs:List (κ×V),bj (kvs.map fun kv=>if kv.1=k then(kv.1,y)else kv) j=(bj kvs j).map fun x=>if j=k then y else x
 |[]=>rfl
 |p::r=>by
  have ih:=v7 k j y r;rw[List.map_cons];by_cases h:p.1=k
  ·rw[Xo h];by_cases e:p.1=j
   ·rw[cf (p:=(p.1,y)) e,cf e,Option.map_some,Xo (e.symm.trans h)]
   ·rw[bW (p:=(p.1,y)) e,bW e,ih]
  ·rw[Xk h];by_cases e:p.1=j
   ·rw[cf (p:=p) e,cf e,Option.map_some,Xk (fun z=>h (e.trans z))]
   ·rw[bW (p:=p) e,bW e,ih]
theorem tG(k j:κ)(y:V):∀kvs:List (κ×V),bj kvs k=none→bj (kvs++[(k,y)]) j=if j=k then some y else bj kvs j
 |[],_=>by
  by_cases e:k=j
  ·rw[Xo e.symm];exact cf (p:=(k,y)) e
  ·rw[Xk (fun z=>e z.symm)];exact bW (p:=(k,y)) e
 |p::r,hn=>by
  rw[List.cons_append];have hk:¬p.1=k:=fun z=>by rw[cf z]at hn;cases hn
  rw[bW hk]at hn;have ih:=tG k j y r hn;by_cases e:p.1=j
  ·rw[cf e,cf e,Xk (fun z=>hk (e.trans z))]
  ·rw[bW e,bW e,ih]
theorem jf(kvs:List (κ×V))(k j:κ)(y:V):bj (putK kvs k y) j=if j=k then some y else bj kvs j:=by
 unfold putK;by_cases a:(kvs.any fun kv=>decide (kv.1=k))=true
 ·rw[Xo a,v7];rw[gC]at a;by_cases e:j=k
  ·obtain⟨x,hx⟩:=Option.isSome_iff_exists.mp a;rw[Xo e,e,hx,Option.map_some,if_pos rfl]
  ·rw[Xk e];cases bj kvs j with
   |none=>rfl
   |some x=>rw[Option.map_some,Xk e]
 ·rw[Xk a];refine tG k j y kvs ?_;rw[gC]at a;cases q:bj kvs k with
  |none=>rfl
  |some x=>rw[q]at a;exact(a rfl).elim
theorem fh(kvs:List (κ×V))(k:κ)(v:V):(putK kvs k v).length≤kvs.length+1:=by
 unfold putK;split
 ·rw[List.length_map];omega
 ·rw[List.length_append,List.length_cons,List.length_nil];omega
theorem qG{kvs:List (κ×V)}{k:κ}(v:V)(h:bj kvs k=none):putK kvs k v=kvs++[(k,v)]:=by
 unfold putK;rw[gC,h];exact if_neg (Xy)
theorem jz.jg{o:Option V}{u:Option Value}(r:jz o u):o.isSome=u.isSome:=by
 cases o with
 |none=>cases u with
  |none=>rfl
  |some _=>exact(show False from r).elim
 |some _=>cases u with
  |none=>exact(show False from r).elim
  |some _=>rfl
theorem jz.getD{o:Option V}{u:Option Value}{d:V}{d':Value}(r:jz o u)(rd:RelV d d'):RelV (o.getD d) (u.getD d'):=by
 cases o with
 |none=>cases u with
  |none=>exact rd
  |some _=>exact(show False from r).elim
 |some _=>cases u with
  |none=>exact(show False from r).elim
  |some _=>exact r
theorem KV.val{kvs:List (κ×V)}{vs:List (κ×Value)}(r:KV kvs vs)(k:κ):jz (bj kvs k) (valueAt vs k):=by
 unfold KV at r
 induction r with
 |nil=>exact True.intro
 |@cons p q ps qs h t ih=>
  obtain⟨h1,h2⟩:=h;by_cases e:p.1=k
  ·have e':q.1=k:=h1.symm.trans e;have b:valueAt (q::qs) k=some q.2:=by simp[valueAt,List.find?_cons,e']
   rw[cf e,b];exact h2
  ·have e':¬q.1=k:=fun z=>e (h1.trans z)
   have b:valueAt (q::qs) k=valueAt qs k:=by simp[valueAt,List.find?_cons,e']
   rw[bW e,b];exact ih
theorem KV.any{kvs:List (κ×V)}{vs:List (κ×Value)}(r:KV kvs vs)(k:κ):(kvs.any fun kv=>decide (kv.1=k))=vs.any fun kv=>decide (kv.1=k):=by
 unfold KV at r
 induction r with
 |nil=>rfl
 |cons h t ih=>rw[List.any_cons,List.any_cons,ih,h.1]
theorem KV.Hv{kvs:List (κ×V)}{vs:List (κ×Value)}(r:KV kvs vs)(k:κ){y:V}{u:Value}(ry:RelV y u):
  KV (kvs.map fun kv=>if kv.1=k then(kv.1,y)else kv) (vs.map fun kv=>if kv.1=k then(kv.1,u)else kv):=by
 unfold KV at r⊢
 induction r with
 |nil=>exact .nil
 |@cons p q ps qs h t ih=>
  rw[List.map_cons,List.map_cons];refine .cons ?_ ih;obtain⟨h1,h2⟩:=h;by_cases e:p.1=k
  ·rw[Xo e,Xo (h1.symm.trans e)];exact⟨h1,ry⟩
  ·rw[Xk e,Xk (fun z=>e (h1.trans z))];exact⟨h1,h2⟩
theorem KV.put{kvs:List (κ×V)}{vs:List (κ×Value)}(r:KV kvs vs)(k:κ){y:V}{u:Value}(ry:RelV y u):KV (putK kvs k y) (stored vs k u):=by
 unfold putK stored;rw[r.any k];by_cases e:(vs.any fun kv=>decide (kv.1=k))=true
 ·rw[Xo e,Xo e];exact r.Hv k ry
 ·rw[Xk e,Xk e];exact Paired.snoc r ⟨rfl,ry⟩
theorem KV.length{kvs:List (κ×V)}{vs:List (κ×Value)}(r:KV kvs vs):kvs.length=vs.length:=Paired.length r
theorem v8(kvs:List (κ×V))(k:κ):(ie kvs k).length≤kvs.length:=List.length_filter_le _ _
end
theorem tH{P:Program}{w:World}{k:Key}{u:Value}(r:RelV (kV k) u):(cK P w).is k u=true:=by
 cases k with
 |inl i=>obtain⟨t,e⟩:=(show ∃t,u=Value.int i t from r);subst e;exact vP P w i t
 |inr x=>obtain⟨t,e⟩:=(show ∃t,u=Value.str x t from r);subst e;exact vQ P w x t
theorem tI{P:Program}{w:World}:∀{ks:List Key}{us:List Value},Vals (ks.map kV) us→ItemsAre (cK P w) ks us
 |[],_,r=>by rw[List.map_nil]at r;cases r;exact .nil
 |k::ks,_,r=>by
  rw[List.map_cons]at r;cases r with
  |cons h t=>exact .cons (tH h) (tI t)
abbrev KT(H:Hp):List (List Key×V)→List (List Key×Addr×Value)→Prop:=Paired fun p q=>p.1=q.1∧H q.2.1=some (.tup (p.1.map kV))∧RelV p.2 q.2.2
theorem KT.val{H:Hp}{kvs:List (List Key×V)}{xs:List (List Key×Addr×Value)}(r:KT H kvs xs)(k:List Key):jz (bj kvs k) ((atKey xs k).map (·.2)):=by
 induction r with
 |nil=>exact True.intro
 |@cons p q ps qs h t ih=>
  obtain⟨h1,_,h2⟩:=h;by_cases e:p.1=k
  ·have e':q.1=k:=h1.symm.trans e;have b:atKey (q::qs) k=some q.2:=by simp[atKey,List.find?_cons,e']
   rw[cf e,b];exact h2
  ·have e':¬q.1=k:=fun z=>e (h1.trans z)
   have b:atKey (q::qs) k=atKey qs k:=by simp[atKey,List.find?_cons,e']
   rw[bW e,b];exact ih
theorem KT.Hv{H:Hp}{kvs:List (List Key×V)}{xs:List (List Key×Addr×Value)}(r:KT H kvs xs)(k:List Key){y:V}{u:Value}(ry:RelV y u):
  KT H (kvs.map fun kv=>if kv.1=k then(kv.1,y)else kv) (xs.map (putAt k u)):=by
 induction r with
 |nil=>exact .nil
 |@cons p q ps qs h t ih=>
  rw[List.map_cons,List.map_cons];refine .cons ?_ ih;obtain⟨h1,h2,h3⟩:=h;unfold putAt;by_cases e:p.1=k
  ·rw[Xo e,Xo (h1.symm.trans e)];exact⟨h1,h2,ry⟩
  ·rw[Xk e,Xk (fun z=>e (h1.trans z))];exact⟨h1,h2,h3⟩
theorem KT.put{H:Hp}{kvs:List (List Key×V)}{xs:List (List Key×Addr×Value)}(r:KT H kvs xs)(k:List Key){b:Addr}{y:V}{u:Value}(hb:H b=some (.tup (k.map kV)))(ry:RelV y u):
  KT H (putK kvs k y) (storedH xs k b u):=by
 have e:(kvs.any fun kv=>decide (kv.1=k))=(atKey xs k).isSome:=by
  rw[gC,(r.val k).jg,Option.isSome_map]
 unfold putK storedH;rw[e];by_cases q:(atKey xs k).isSome=true
 ·rw[Xo q,Xo q];exact r.Hv k ry
 ·rw[Xk q,Xk q];exact Paired.snoc r ⟨rfl,hb,ry⟩
theorem KT.keeps{H H':Hp}{kvs:List (List Key×V)}{xs:List (List Key×Addr×Value)}(r:KT H kvs xs)(ht:∀b ys,H b=some (.tup ys)→H' b=some (.tup ys)):KT H' kvs xs:=
 Paired.G6 r fun _ _ z=>⟨z.1,ht _ _ z.2.1,z.2.2⟩
section
variable{P:Program}{w:World}{H:Hp}{h:Heap}{a:Addr}
theorem FO{u:HO}(ok:kb P w H h)(e:Rd H a u):cF P w H h a u:=e.ok ok
theorem qH{kvs:List (Key×V)}(ok:kb P w H h)(e:Rd H a (.dK kvs)):kvs.length≤sizeLine∧(a==sysModules)=false∧∃vs,KV kvs vs∧h.DictOf (cK P w) a vs:=
 show cF P w H h a (.dK kvs)from FO ok e
theorem KP{kvs:List (Key×V)}(ok:kb P w H h)(e:H a=some (.dK kvs)):kvs.length≤sizeLine∧(a==sysModules)=false∧∃vs,KV kvs vs∧h.DictOf (cK P w) a vs:=qH ok (.inl e)
theorem l7{ks:List Key}(ok:kb P w H h)(e:H a=some (.tup (ks.map kV))):(tupleKind (cK P w)).is h ks a:=by
 obtain⟨_,its,r,o,h1,h2,n,h3⟩:=(show cF P w H h a (.tup (ks.map kV))from ok a _ e)
 exact⟨o,its.toArray,n,h1,h2,h3,by simpa using tI r⟩
theorem qI{kvs:List (List Key×V)}(ok:kb P w H h)(e:Rd H a (.dT kvs)):kvs.length≤sizeLine∧(a==sysModules)=false∧
  ∃xs,KT H kvs xs∧h.DictOfH (tupleKind (cK P w)) a xs:=by
 obtain⟨z,y,xs,r,o,es,ep,h1,h2,h3,h4,h5⟩:=(show cF P w H h a (.dT kvs)from FO ok e)
 refine⟨z,y,xs,r,o,es,ep,h1,h2,h3,h4,fun x hx=>?_,h5⟩;have all:∀{l:List (List Key×V)}{m:List (List Key×Addr×Value)},KT H l m→∀x∈m,(tupleKind (cK P w)).is h x.1 x.2.1:=by
  intro l m q
  induction q with
  |nil=>intro x hx;exact nomatch hx
  |@cons p q ps qs hq t ih=>
   intro x hx;rcases List.mem_cons.mp hx with e|hx
   ·subst e;exact l7 ok (by rw[←hq.1];exact hq.2.1)
   ·exact ih x hx
 exact all r x hx
theorem FP{kvs:List (List Key×V)}(ok:kb P w H h)(e:H a=some (.dT kvs)):kvs.length≤sizeLine∧(a==sysModules)=false∧
  ∃xs,KT H kvs xs∧h.DictOfH (tupleKind (cK P w)) a xs:=qI ok (.inl e)
end
def jh(H:Hp)(a:Addr)(y:V)(r:Option V):Prop:=
 (∃kvs k,Rd H a (.dK kvs)∧y=kV k∧r=bj kvs k)∨∃kvs k b,Rd H a (.dT kvs)∧y= .ref b∧H b=some (.tup (k.map kV))∧r=bj kvs k
def Ee(H:Hp)(a:Addr)(y v:V)(H':Hp):Prop:=
 (∃kvs k,H a=some (.dK kvs)∧y=kV k∧kvs.length<sizeLine∧H'=upd H a (.dK (putK kvs k v)))∨
 ∃kvs k b,H a=some (.dT kvs)∧y= .ref b∧H b=some (.tup (k.map kV))∧kvs.length<sizeLine∧H'=upd H a (.dT (putK kvs k v))
theorem jh.t{H:Hp}{a b:Addr}{kvs:List (List Key×V)}{k:List Key}(e:H a=some (.dT kvs))(eb:H b=some (.tup (k.map kV))):jh H a (.ref b) (bj kvs k):= .inr ⟨kvs,k,b, .inl e,rfl,eb,rfl⟩
theorem Ee.t{H:Hp}{a b:Addr}{kvs:List (List Key×V)}{k:List Key}{v:V}(e:H a=some (.dT kvs))(eb:H b=some (.tup (k.map kV)))(hl:kvs.length<sizeLine):
  Ee H a (.ref b) v (upd H a (.dT (putK kvs k v))):= .inr ⟨kvs,k,b,e,rfl,eb,hl,rfl⟩
section
variable{X:Cx}{pins:List (Addr×Obj)}{σ:St}{H:Hp}{s:Shared}{a:Addr}{y v:V}{u r:Value}{o:Option V}{A:Around}{E:Value→Shared→Prop}
theorem Inv.big(I:Inv X pins σ H s):sysModules<s.heap.objs.size:=by
 have h:mainGlobals<s.heap.objs.size:=(I.mod.glob.keeps I.bk).lt;exact Nat.lt_trans (Xy) h
theorem Ak{Q:Value→Shared→Prop}(hu:A.units+1<cLine)(I:Inv X pins σ H s)(g:jh H a y (some v))(ry:RelV y u)(h:∀w' s',Inv X pins σ H s'→RelV v w'→Q w' s'):
  wpAny (model X.prog X.w) A (getItem (.ref a) u) Q E s:=by
 rcases g with⟨kvs,k,e,ey,l⟩|⟨kvs,k,b,e,ey,eb,l⟩
 ·subst ey;obtain⟨z,hd,vs,rel,dd⟩:=qH I.bL e;obtain⟨w',hw,jy⟩:=jz.some_of (v:=v) (o:=valueAt vs k) (by rw[l];exact rel.val k);exact wpAny_getItem_of (tH ry) dd.mapOf hw (h w' _ (I.tok _) jy)
 ·subst ey;cases(show u=Value.ref b from ry);obtain⟨z,hd,xs,rel,dd⟩:=qI I.bL e;obtain⟨w',hw,jy⟩:=jz.some_of (v:=v) (o:=(atKey xs k).map (·.2)) (by rw[l];exact rel.val k);obtain⟨p,hp,BQ⟩:=Option.map_eq_some_iff.mp hw;refine wpAny_getItem_heap (tupleKind_room_in1 hu) (l7 I.bL eb) dd hp ?_;rw[BQ];exact h w' _ (I.tok _) jy
theorem Ov{Q:Value→Shared→Prop}(hu:A.units+1<cLine)(I:Inv X pins σ H s)(g:jh H a y o)(ry:RelV y u)(h:∀s',Inv X pins σ H s'→Q (.bool o.isSome) s'):
  wpAny (model X.prog X.w) A (compareOp .In u (.ref a)) Q E s:=by
 rcases g with⟨kvs,k,e,ey,l⟩|⟨kvs,k,b,e,ey,eb,l⟩
 ·subst ey;obtain⟨z,hd,vs,rel,dd⟩:=qH I.bL e;refine wpAny_in_of (tH ry) hd dd.mapOf ?_;rw[←(rel.val k).jg,←l];exact h _ (I.tok _)
 ·subst ey;cases(show u=Value.ref b from ry);obtain⟨z,hd,xs,rel,dd⟩:=qI I.bL e;refine wpAny_in_heap (tupleKind_room_in1 hu) (l7 I.bL eb) hd dd ?_;have q:=(rel.val k).jg;rw[Option.isSome_map]at q;rw[←q,←l];exact h _ (I.tok _)
theorem Ef{Q:Value→Shared→Prop}(hu:A.units+1<cLine)(I:Inv X pins σ H s)(g:jh H a y o)(ry:RelV y u)(h:∀s',Inv X pins σ H s'→Q (.bool (!o.isSome)) s'):
  wpAny (model X.prog X.w) A (compareOp .NotIn u (.ref a)) Q E s:=by
 rcases g with⟨kvs,k,e,ey,l⟩|⟨kvs,k,b,e,ey,eb,l⟩
 ·subst ey;obtain⟨z,hd,vs,rel,dd⟩:=qH I.bL e;refine wpAny_notIn_of (tH ry) hd dd.mapOf ?_;rw[←(rel.val k).jg,←l];exact h _ (I.tok _)
 ·subst ey;cases(show u=Value.ref b from ry);obtain⟨z,hd,xs,rel,dd⟩:=qI I.bL e;refine wpAny_notIn_heap (tupleKind_room_in1 hu) (l7 I.bL eb) hd dd ?_;have q:=(rel.val k).jg;rw[Option.isSome_map]at q;rw[←q,←l];exact h _ (I.tok _)
theorem ud{h':Heap}{t':Nat}{ob:HO}(I:Inv X pins σ H s)(mu:Kf (H a))(hs:Heap.SameBut a s.heap h')(he:∃q,h'.get? a=some q)(new:cF X.prog X.w (upd H a ob) h' a ob):
  Inv X pins σ (upd H a ob) {s with heap:=h',toks:=t'}:=
 I.write (x:=a) (e:=a) mu (.inl rfl) (fun b q hb z=>(hs.2 b hb).trans z) he new
theorem Hw{P:Program}{w:World}{H':Hp}{h':Heap}{kvs:List (Key×V)}{vs:List (Key×Value)}(z:kvs.length≤sizeLine)(hd:(a==sysModules)=false)(rel:KV kvs vs)(dd:h'.DictOf (cK P w) a vs):
  cF P w H' h' a (.dK kvs):=⟨z,hd,vs,rel,dd⟩
theorem Al{H':Hp}{Q:Unit→Shared→Prop}(hu:A.units+1<cLine)(I:Inv X pins σ H s)(g:Ee H a y v H')(ry:RelV y u)(rv:RelV v r)(h:∀s',Inv X pins σ H' s'→Q () s'):
  wpAny (model X.prog X.w) A (setItem (.ref a) u r) Q E s:=by
 rcases g with⟨kvs,k,e,ey,l,eH⟩|⟨kvs,k,b,e,ey,eb,l,eH⟩
 ·subst ey eH;obtain⟨z,hd,vs,rel,dd⟩:=KP I.bL e;have hz:vs.length≤sizeLine:=by rw[←rel.length];exact z
  have hl:(putK kvs k v).length≤sizeLine:=by have:=fh kvs k v;omega
  refine wpAny_setItem_pairs (hsz:=hz) (tH ry) dd fun h' FQ hs=>h _ ?_
  have he:∃q,h'.get? a=some q:=let ⟨q,_,_,hq,_⟩:=FQ;⟨q,hq⟩
  exact ud I (by rw[e];exact True.intro) hs he (Hw hl hd (rel.put k rv) FQ)
 ·subst ey eH;cases(show u=Value.ref b from ry);obtain⟨z,hd,xs,rel,dd⟩:=FP I.bL e;have hz:xs.length≤sizeLine:=by rw[←Paired.length rel];exact z
  have hl:(putK kvs k v).length≤sizeLine:=by have:=fh kvs k v;omega
  refine wpAny_setItem_heap (hsz:=hz) (tupleKind_room_in1 hu) (l7 I.bL eb) dd fun h' FQ hs=>h _ ?_
  obtain⟨q,es,ep,hq,h2,h3,h4,_,h5⟩:=FQ;refine ud I (by rw[e];exact True.intro) hs ⟨q,hq⟩ ⟨hl,hd,_,(rel.put k eb rv).keeps fun c ys ec=>?_,q,es,ep,hq,h2,h3,h4,h5⟩;rw[af (hZ ec e (fun z=>nomatch z))];exact ec
end
section
variable{X:Cx}{pins:List (Addr×Obj)}{σ:St}{H:Hp}{s:Shared}{a:Addr}{kvs:List (Key×V)}{k:Key}{u:Value}{A:Around}{E:Value→Shared→Prop}
end
def KR(i:Expr):Prop:=∀ov iv,subscripted i false ov iv=operate [ov,iv] (getItem ov iv)
theorem Eh{prog:Program}{w:World}{A:Around}{E:Value→Shared→Prop}{s:Shared}{env:Env}{value slice:Expr}{pos:Pos}{T id:String}{Q:Value→Shared→Prop}
  (hl:typeLookup (.type T) "__getitem__"=pure (some (.builtin id))) (hs:KR slice)
  (h:wpAny (model prog w) A (eval value env) (fun o bT=>wpAny (model prog w) A (eval slice env) (fun i oE=>oE.TypeIs o T∧wpAny (model prog w) A (getItem o i) Q E oE) E bT) E s):
  wpAny (model prog w) A (eval (.Subscript value slice pos) env) Q E s:=by
 refine Subscript_ (wpAny_mono h (fun o bT Am=>wpAny_mono Am (fun i oE BR=>?_) fun _ _ x=>x) fun _ _ x=>x);obtain⟨hT,BR⟩:=BR;unfold subscriptTail;refine wpAny_bind ?_;rw[getitemInPython_of_ne hT.not_modules];refine wpAny_bind (wpAny_specialOf hT hl ?_);have fin:wpAny (model prog w) A (subscripted slice false o i) (fun r An=>wpAny (model prog w) A (letTemporaryGo value o r>>=fun _=>pure r) Q E An) E oE:=by
  rw[hs o i];exact wpAny_operating (wpAny_mono BR (fun r An Ei=>wpAny_bind (wpAny_letTemporaryGo (wpAny_pure Ei))) fun _ _ x=>x)
 first
  |exact wpAny_pure (wpAny_bind fin)
  |exact wpAny_bind (wpAny_pure (wpAny_bind fin))
  |exact wpAny_bind fin
theorem v9{X:Cx}{pins:List (Addr×Obj)}{σ:St}{H:Hp}{s:Shared}{a:Addr}{y:V}{o:Option V}(I:Inv X pins σ H s)(g:jh H a y o):s.TypeIs (.ref a) "dict":=by
 rcases g with⟨kvs,k,e,_,_⟩|⟨kvs,k,b,e,_,_,_⟩
 ·obtain⟨_,_,vs,_,dd⟩:=qH I.bL e;exact dd.typeIs
 ·obtain⟨_,_,xs,_,dd⟩:=qI I.bL e;exact dd.typeIs
def KS(td ty:TE):TE:=fun σ H Q=>td σ H fun x H1=>ty σ H1 fun y H2=>∃a v,x= .ref a∧jh H2 a y (some v)∧Q v H2
def Ow(ty td:TE):TE:=fun σ H Q=>ty σ H fun y H1=>td σ H1 fun x H2=>∃a o,x= .ref a∧jh H2 a y o∧Q (.bl o.isSome) H2
def Ej(ty td:TE):TE:=fun σ H Q=>ty σ H fun y H1=>td σ H1 fun x H2=>∃a o,x= .ref a∧jh H2 a y o∧Q (.bl (!o.isSome)) H2
def KU(td ty tv:TE):TS:=fun D σ H=>tv σ H fun v H1=>td σ H1 fun x H2=>ty σ H2 fun y H3=>∃a H4,x= .ref a∧Ee H3 a y v H4∧D.nx σ H4
section
variable{X:Cx}{o i e value:Expr}{pos pos' Oq:Pos}{td ty tv:TE}
theorem gU(hu:X.A.units+1<cLine)(ho:PE X o td)(hi:PE X i ty)(hs:KR i):PE X (.Subscript o i pos) (KS td ty):=by
 intro pins s σ H Q I h;refine Eh PySem.F.slot_dict_getitem.lookup hs (cj (ho pins s σ H _ I h) fun u s1 ⟨x,H1,I1,rx,q1⟩=>cj (hi pins s1 σ H1 _ I1 q1) fun iv s2 ⟨y,H2,I2,ry,a,v,ex,g,q2⟩=>?_);subst ex;obtain rfl:u=Value.ref a:=rx;exact⟨v9 I2 g,Ak hu I2 g ry fun w' s3 I3 jy=>⟨v,H2,I3,jy,q2⟩⟩
theorem qJ(hu:X.A.units+1<cLine)(hi:PE X i ty)(ho:PE X o td):PC X .In i o (Ow ty td):=by
 intro pins s σ H Q I h;refine cj (hi pins s σ H _ I h) fun iv s1 ⟨y,H1,I1,ry,q1⟩=>cj (ho pins s1 σ H1 _ I1 q1) fun u s2 ⟨x,H2,I2,rx,a,ov,ex,g,q2⟩=>?_
 subst ex;obtain rfl:u=Value.ref a:=rx;exact Ov hu I2 g ry fun s3 I3=>⟨.bl ov.isSome,H2,I3,rfl,q2⟩
theorem Ao(hu:X.A.units+1<cLine)(hi:PE X i ty)(ho:PE X o td):PC X .NotIn i o (Ej ty td):=by
 intro pins s σ H Q I h;refine cj (hi pins s σ H _ I h) fun iv s1 ⟨y,H1,I1,ry,q1⟩=>cj (ho pins s1 σ H1 _ I1 q1) fun u s2 ⟨x,H2,I2,rx,a,ov,ex,g,q2⟩=>?_
 subst ex;obtain rfl:u=Value.ref a:=rx;exact Ef hu I2 g ry fun s3 I3=>⟨.bl (!ov.isSome),H2,I3,rfl,q2⟩
theorem la(hu:X.A.units+1<cLine)(ho:PE X o td)(hi:PE X i ty)(hv:PE X value tv)(hs:swapsWith value (some (.Subscript o i pos')) pos.line X.env=pure false):
  PS X (.Assign [.Subscript o i pos'] value pos) (KU td ty tv):=by
 intro pins s σ H D I h;refine wpAny_Assign_Subscript (cj (hv pins s σ H _ I h) fun r s1 ⟨v,H1,I1,rv,q1⟩=>cj (ho pins s1 σ H1 _ I1 q1) fun u s2 ⟨x,H2,I2,rx,q2⟩=>cj (hi pins s2 σ H2 _ I2 q2) fun iv s3 ⟨y,H3,I3,ry,a,H4,ex,g,q3⟩=>?_) hs;subst ex;obtain rfl:u=Value.ref a:=rx;exact Al hu I3 g ry rv fun s4 I4=>⟨σ,H4,I4,q3⟩
end
theorem BS{P:Program}{w:World}{H:Hp}(h:Heap)(hb:sysModules<h.objs.size):cF P w H (h.push {cls:= .type "dict",data:= .dict #[]}) h.objs.size (.dT []):=
 ⟨Nat.zero_le _,beq_eq_false_iff_ne.mpr (Ne.symm (Nat.ne_of_lt hb)),[], .nil,_,#[],0,Heap.get?_push_size _ rfl,⟨rfl,rfl,rfl⟩,rfl,rfl,List.nodup_nil⟩
def Hx:TE:=fun _ H Q=>∀p,H p=none→Q (.ref p) (upd H p (.dT []))
section
variable{X:Cx}{pos:Pos}
theorem kj:PE X (.Dict [] [] pos) Hx:=fun pins s σ H Q I h=>
 wpAny_Dict_empty ⟨.ref s.heap.objs.size,_,I.laid (a:=s.heap.objs.size) (o:= .dT []) (t':=s.toks) (fun _ _ q=>Xl q) (Nat.le_refl _) (BS s.heap I.big),rfl,h _ (I.bL.fresh (Nat.le_refl _))⟩
end
structure M1(X:Cx)(o:Expr)(m:Str)(apos:Pos)(e:Expr)(dO:Pos):Prop where
 base:attributeBase o m X.env (eval o X.env)=eval o X.env
 ue:((backTo dO (starEach [e] X.env)).all (fun x=>!x.1)&&(backToKw dO (keywordEach [] X.env)).all (fun x=>x.1.isSome)
  &&decide (([e]:List Expr).length+([]:List Keyword).length+(if ([]:List Keyword).isEmpty then 0 else 1)<30))=true
 line:(apos.endLine==dO.line)=true
 trees:backTo dO (starEach [e] X.env)=[(false,eval e X.env)]
def Ox(H:Hp)(a:Addr):Prop:=(∃kvs,Rd H a (.dK kvs))∨∃kvs,Rd H a (.dT kvs)
theorem BU{X:Cx}{pins:List (Addr×Obj)}{σ:St}{H:Hp}{s:Shared}{a:Addr}(I:Inv X pins σ H s)(d:Ox H a):
  s.TypeIs (.ref a) "dict"∧(∀b,Value.ref a= .ref b→∃ob,s.heap.get? b=some ob∧ob.dict=none)∧(a==sysModules)=false:=by
 rcases d with⟨kvs,e⟩|⟨kvs,e⟩
 ·obtain⟨_,hd,vs,_,dd⟩:=qH I.bL e;refine⟨dd.typeIs,fun b q=>?_,hd⟩;cases q;obtain⟨ob,_,_,h1,h2,_⟩:=dd;exact⟨ob,h1,h2.2.1⟩
 ·obtain⟨_,hd,xs,_,dd⟩:=qI I.bL e;refine⟨dd.typeIs,fun b q=>?_,hd⟩;cases q;obtain⟨ob,_,_,h1,h2,_⟩:=dd;exact⟨ob,h1,h2.2.1⟩
section
variable{X:Cx}{pins:List (Addr×Obj)}{σ:St}{H:Hp}{s:Shared}{a:Addr}{y d:V}{u r:Value}{o:Option V}{A:Around}{E:Value→Shared→Prop}
theorem Hy{Q:Value→Shared→Prop}(hu:A.units+1<cLine)(I:Inv X pins σ H s)(g:jh H a y o)(ry:RelV y u)(h:∀w' s',Inv X pins σ H s'→RelV (o.getD .cD) w'→Q w' s'):
  wpAny (model X.prog X.w) A (call (.builtin "dict.get") [.ref a,u]) Q E s:=by
 rcases g with⟨kvs,k,e,ey,l⟩|⟨kvs,k,b,e,ey,eb,l⟩
 ·subst ey;obtain⟨z,hd,vs,rel,dd⟩:=qH I.bL e;refine call_meetsIn PySem.F.slot_dict_get dd.typeIs PySem.F.entry_dict_get (PySem.F.args_dict_get_2 _ _) (meets_dict_get (cK X.prog X.w) a (tH ry) hd) ⟨_,dd.mapOf,h _ _ (I.tok _) ?_⟩;rw[l];exact(rel.val k).getD rfl
 ·subst ey;cases(show u=Value.ref b from ry);obtain⟨z,hd,xs,rel,dd⟩:=qI I.bL e;refine call_meetsIn PySem.F.slot_dict_get dd.typeIs PySem.F.entry_dict_get (PySem.F.args_dict_get_2 _ _) (meetsH_dict_get (tupleKind (cK X.prog X.w)) a b hd) ⟨tupleKind_room_in1 hu,k,xs,l7 I.bL eb,dd,h _ _ (I.tok _) ?_⟩;rw[l];exact(rel.val k).getD rfl
end
def Hz(td ty:TE):TE:=fun σ H Q=>td σ H fun x H1=>∃a,x= .ref a∧Ox H1 a∧ty σ H1 fun y H2=>∃o,jh H2 a y o∧Q (o.getD .cD) H2
section
variable{X:Cx}{o e f:Expr}{apos dO:Pos}{td ty tx:TE}
theorem BV(hu:X.A.units+1<cLine)(ho:PE X o td)(he:PE X e ty)(m:M1 X o "get" apos e dO):PE X (.Call (.Attribute o "get" apos) [e] [] dO) (Hz td ty):=by
 intro pins s σ H Q I h;refine wpAny_Call_method m.base m.ue m.line PySem.F.plainAttrs_dict PySem.F.slot_dict_get PySem.F.type_dict_get (cj (ho pins s σ H _ I h) fun u s1 ⟨x,H1,I1,rx,a,ex,d,q1⟩=>?_);subst ex;obtain rfl:u=Value.ref a:=rx;obtain⟨t1,t2,_⟩:=BU I1 d;refine⟨t1,t2,?_⟩;rw[m.trees];refine Calls.callWith_builtin rfl (Calls.evalArgs_plain (Calls.spliced_cons (cj (he pins s1 σ H1 _ I1 q1) fun iv s2 ⟨y,H2,I2,ry,ov,g,q2⟩=>Calls.spliced_nil ?_)));exact Hy hu I2 g ry fun w' s3 I3 jy=>⟨_,H2,I3,jy,q2⟩
end
section
variable{X:Cx}{pins:List (Addr×Obj)}{σ:St}{H:Hp}{s:Shared}{a:Addr}{kvs:List (Key×V)}{A:Around}{E:Value→Shared→Prop}
end
section
variable{X:Cx}{pins:List (Addr×Obj)}{σ:St}{H:Hp}{s:Shared}{a:Addr}{y:V}{u:Value}{A:Around}{E:Value→Shared→Prop}
end
end L2
namespace HT
open PySem PyProof.Rows
section
open PySem.SeqAt
open PySem.AutoSeq1 (wpAny_loadPart')
open PySem.MeetsSeq PySem.MeetsSeq2 PySem.MeetsSeq3
end
section
variable{prog:Program}{w:World}{A:Around}{E:Value→Shared→Prop}{s:Shared}
def kc(n d:Nat):Option Int→Nat
 |none=>d
 |some v=>if v<0 then(v+(n:Int)).toNat else min v.toNat n
theorem v_(n d:Nat):kc n d none=d:=rfl
theorem Ek(n d k:Nat):kc n d (some (k:Int))=min k n:=by
 show(if (k:Int)<0 then((k:Int)+(n:Int)).toNat else min (k:Int).toNat n)=min k n;rw[if_neg Xs,Int.toNat_natCast]
theorem BX(n d:Nat)(hd:d≤n)(o:Option Int):kc n d o≤n:=by
 cases o with
 |none=>exact hd
 |some v=>
  show(if v<0 then(v+(n:Int)).toNat else min v.toNat n)≤n;by_cases hv:v<0
  ·rw[Xo hv];omega
  ·rw[Xk hv];exact Nat.min_le_right _ _
end
end HT
namespace L2
open PySem PySem.Spec PyProof.Rows
abbrev TO:=St→Hp→(Option Int→Hp→Prop)→Prop
def PO(X:Cx)(e:Option Expr)(t:TO):Prop:=
 ∀(pins:List (Addr×Obj))(s:Shared)(σ:St)(H:Hp)(Q:Option Int→Hp→Prop),Inv X pins σ H s→t σ H Q→
  wpAny (model X.prog X.w) X.A (evalPart e X.env) (fun u s'=>∃o H',Inv X pins σ H' s'∧IsPart u o∧Q o H') X.xe s
def El:TO:=fun _ H Q=>Q none H
def KW(t:TE):TO:=fun σ H Q=>t σ H fun x H1=>∃i,x= .int i∧Q (some i) H1
section
variable{X:Cx}{e:Expr}{te:TE}{lo hi:Option Expr}{tl th:TO}{pos p2:Pos}
theorem qt:PO X none El:=by
 intro pins s σ H Q I h;rw[evalPart_none];exact wpAny_pure ⟨none,H,I, .none,h⟩
theorem lb(h:PE X e te):PO X (some e) (KW te):=by
 intro pins s σ H Q I hw;rw[evalPart_some];refine cj (h pins s σ H _ I hw) fun u s1 ⟨x,H1,I1,r1,q1⟩=>?_
 obtain⟨i,rfl,q⟩:=q1;obtain⟨t,rfl⟩:=r1;exact⟨some i,H1,I1, .int i t,q⟩
def MI(X:Cx)(r:V→Option Int→Option Int→Hp→VK→Prop):Prop:=
 ∀(pins:List (Addr×Obj))(s:Shared)(σ:St)(H:Hp)(x:V)(v vl vu:Value)(lo hi:Option Int)(sl:Addr)(Q:VK),Inv X pins σ H s→RelV x v→s.heap.IsSliceOf sl vl vu .none→IsPart vl lo→IsPart vu hi→r x lo hi H Q→
  ∃T id,typeLookup (.type T) "__getitem__"=pure (some (.builtin id))∧s.TypeIs v T∧wpAny (model X.prog X.w) X.A (getItem v (.ref sl)) (EP X pins σ Q) X.xe s
def TL(r:V→Option Int→Option Int→Hp→VK→Prop)(te:TE)(tl th:TO):TE:=fun σ H Q=>te σ H fun x H1=>tl σ H1 fun l H2=>th σ H2 fun u H3=>r x l u H3 Q
theorem kn{r:V→Option Int→Option Int→Hp→VK→Prop}(hr:MI X r)(he:PE X e te)(hl:PO X lo tl)(hu:PO X hi th):PE X (.Subscript e (.Slice lo hi none p2) pos) (TL r te tl th):=by
 intro pins s σ H Q I h;refine Subscript_ (cj (he pins s σ H _ I h) fun v s1 ⟨x,H1,I1,r1,q1⟩=>?_);refine wpAny_Slice (cj (hl pins s1 σ H1 _ I1 q1) fun vl s2 ⟨l,H2,I2,pl,q2⟩=>cj (hu pins s2 σ H2 _ I2 q2) fun vu s3 ⟨u,H3,I3,pu,q3⟩=>?_);rw[evalPart_none];refine wpAny_pure ?_;have I4:Inv X pins σ H3 {s3 with heap:=s3.heap.push {cls:= .type "slice",data:= .fields #[vl,vu, .none]}}:=I3.kept (t':=s3.toks) fun b ob q=>Xl q
 obtain⟨T,id,hT,ht,hg⟩:=hr pins {s3 with heap:=s3.heap.push {cls:= .type "slice",data:= .fields #[vl,vu, .none]}} σ H3 x v vl vu l u s3.heap.objs.size Q I4 r1 (Heap.IsSliceOf.new ..) pl pu q3;show wpAny (model X.prog X.w) X.A (subscriptTail e (.Slice lo hi none p2) v (.ref s3.heap.objs.size)) (EP X pins σ Q) X.xe {s3 with heap:=s3.heap.push {cls:= .type "slice",data:= .fields #[vl,vu, .none]}};exact tail_any (ops:=[.ref s3.heap.objs.size,v]) ht hT hg (by with_unfolding_all rfl)
def uf(xs:List V)(lo hi:Option Int):List V:=(xs.drop (HT.kc xs.length 0 lo)).take (HT.kc xs.length xs.length hi-HT.kc xs.length 0 lo)
theorem wb(xs:List V)(lo hi:Option Int):(uf xs lo hi).length≤xs.length:=by
 unfold uf;rw[List.length_take,List.length_drop];omega
end
def BY(n:Nat)(i:Int):Option Nat:=if 0≤i then(if i<n then some i.toNat else none)else if-(n:Int)≤i then some (i+n).toNat else none
def si{α:Type}(xs:List α)(i:Int):Option α:=(BY xs.length i).bind fun j=>xs[j]?
theorem YW{n:Nat}{i:Int}{j:Nat}(h:BY n i=some j):seqIndex? i n=some j∧j<n∧-(n:Int)≤i∧i<n:=by
 unfold BY at h;by_cases h0:0≤i
 ·rw[Xo h0]at h;by_cases h1:i<n
  ·rw[Xo h1]at h;have e:i.toNat=j:=Option.some.inj h;exact⟨by rw[seqIndex_of h0 h1,e],Xx,Xx,h1⟩
  ·rw[Xk h1]at h;cases h
 ·rw[Xk h0]at h;by_cases h1:-(n:Int)≤i
  ·rw[Xo h1]at h;have e:(i+n).toNat=j:=Option.some.inj h;exact⟨by rw[seqIndex_neg Xs h1,e],Xx,h1,Xx⟩
  ·rw[Xk h1]at h;cases h
theorem ug{α:Type}{xs:List α}{i:Int}{v:α}(h:si xs i=some v):∃j,seqIndex? i xs.length=some j∧xs[j]?=some v∧j<xs.length∧-(xs.length:Int)≤i∧i<xs.length:=by
 unfold si at h;cases e:BY xs.length i with
 |none=>rw[e]at h;cases h
 |some j=>
  rw[e]at h;obtain⟨h1,h2,h3,h4⟩:=YW e;exact⟨j,h1,h,h2,h3,h4⟩
theorem av{α:Type}{xs:List α}{j:Nat}{v:α}(h:xs[j]?=some v):si xs (j:Int)=some v:=by
 have hj:j<xs.length:=(Xd h).1;have e:BY xs.length (j:Int)=some j:=by
  unfold BY;rw[if_pos Xs,if_pos Xs];simp
 unfold si;rw[e];exact h
theorem wc{α:Type}(xs:List α)(v:α):si (xs++[v]) (-1)=some v:=by
 have hl:(xs++[v]).length=xs.length+1:=XA;have e:BY (xs++[v]).length (-1)=some xs.length:=by
  unfold BY;rw[hl,if_neg (Xy),if_pos Xs]
  congr 1
  omega
 unfold si;rw[e];show(xs++[v])[xs.length]?=some v;simp
def Em(b:Expr):Prop:=∀o i,subscripted b false o i=operate [o,i] (getItem o i)
def JJ(X:Cx)(r:R2):Prop:=
 ∀(value slice:Expr)(pins:List (Addr×Obj))(s:Shared)(σ:St)(H:Hp)(x y:V)(v u:Value)(Q:VK),Inv X pins σ H s→RelV x v→RelV y u→r x y H Q→
  subscripted slice false v u=operate [v,u] (getItem v u)→wpAny (model X.prog X.w) X.A (subscriptTail value slice v u) (EP X pins σ Q) X.xe s
def MJ(X:Cx)(id:String)(r:V→List V→Hp→VK→Prop):Prop:=
 ∀(pins:List (Addr×Obj))(s:Shared)(σ:St)(H:Hp)(x:V)(xs:List V)(v:Value)(us:List Value)(Q:VK),Inv X pins σ H s→RelV x v→Vals xs us→r x xs H Q→
  wpAny (model X.prog X.w) X.A (call (.builtin id) (v::us)) (EP X pins σ Q) X.xe s
section
variable{X:Cx}{a b:Expr}{ta tb:TE}{pos:Pos}
theorem aG{r:R2}(hr:JJ X r)(ha:PE X a ta)(hb:PE X b tb)(hs:Em b):PE X (.Subscript a b pos) (MF r ta tb):=by
 intro pins s σ H Q I h;exact Subscript_ (Hm ha hb I h fun v u s2 x y H2 I2 rx ry q=>hr a b pins s2 σ H2 x y v u Q I2 rx ry q (hs _ _))
inductive HA(K:PySem.W.Frag)(x:V)(y:V)(H:Hp)(Q:VK):Prop
 |mk (p:_) (xs:_) (i:_) (v:_) (_:x= .ref p) (_:y= .int i) (_:iF K H p xs) (_:si xs i=some v) (_:Q v H):HA K x y H Q
inductive HB(K:PySem.W.Frag)(x:V)(y:V)(H:Hp)(Q:VK):Prop
 |mk (p:_) (xs:_) (i:_) (v:_) (_:x= .ref p) (_:y= .int i) (_:BB K H p xs) (_:si xs i=some v) (_:Q v H):HB K x y H Q
inductive KY(x:V)(y:V)(H:Hp)(Q:VK):Prop
 |mk (z:_) (i:_) (c:_) (_:x= .str z) (_:y= .int i) (_:z.length≤sizeLine) (_:si z.cps.toList i=some c) (_:Q (.str ⟨#[c]⟩) H):KY x y H Q
theorem En:JJ X (HA X.K):=by
 intro value slice pins s σ H x y v u Q I rx ry h hs;obtain⟨p,xs,i,z,rfl,rfl,hq,he,q⟩:=h;cases rx;obtain⟨t,rfl⟩:=ry;obtain⟨its,r,pl,hz⟩:=I.list hq;obtain⟨j,h1,h2,h3,h4,h5⟩:=ug he;obtain⟨w,ew,jy⟩:=r.get h2;have hl:=r.length;have hn:=oH;have fin:EP X pins σ Q w s:=⟨z,H,I,jy,q⟩
 by_cases h0:0≤i
 ·have hj:i.toNat=j:=by
   rw[seqIndex_of h0 h5]at h1;exact Option.some.inj h1
  exact item_listR pl.isList h0 Xs (by rw[hj];simpa using ew) fin hs
 ·have hj:(i+(its.toArray.size:Int)).toNat=j:=by
   rw[seqIndex_neg Xs h4]at h1;rw[List.size_toArray,←hl];exact Option.some.inj h1
  exact subscriptTail_builtinR (x:=w) pl.isList.typeIs slot_list_getitem.lookup
   (wpAny_getItem_list_neg (Q:=fun r s'=>r=w∧EP X pins σ Q r s') pl.isList Xs (by rw[List.size_toArray]<;>omega) (Xx) (by rw[hj];simpa using ew) ⟨rfl,fin⟩) hs
theorem HC:JJ X (HB X.K):=by
 intro value slice pins s σ H x y v u Q I rx ry h hs;obtain⟨p,xs,i,z,rfl,rfl,hq,he,q⟩:=h;cases rx;obtain⟨t,rfl⟩:=ry;obtain⟨its,r,pl,hz⟩:=I.tuple hq;obtain⟨j,h1,h2,h3,h4,h5⟩:=ug he;obtain⟨w,ew,jy⟩:=r.get h2;have hl:=r.length;have hn:=oH;have fin:EP X pins σ Q w s:=⟨z,H,I,jy,q⟩
 exact subscriptTail_builtinR (x:=w) pl.typeIs slot_tuple_getitem.lookup
  (getItem_tuple (j:=j) (Q:=fun r s'=>r=w∧EP X pins σ Q r s') pl Xs (Xx) (by rw[List.size_toArray,←hl];exact h1) (by simpa using ew) ⟨rfl,fin⟩) hs
theorem uh:JJ X KY:=by
 intro value slice pins s σ H x y v u Q I rx ry h hs;obtain⟨z,i,c,rfl,rfl,hz,he,q⟩:=h;obtain⟨t,rfl⟩:=rx;obtain⟨t',rfl⟩:=ry;obtain⟨j,h1,h2,h3,h4,h5⟩:=ug he;have hl:z.cps.toList.length=z.length:=by simp[Str.length]
 rw[hl]at h1 h4 h5;have hn:=oH;exact tail_any (typeIs_str s z t) slot_str_getitem.lookup (getItem_str (c:=c) (by
  have e1:decide (i< -(2^63:Int))=false:=decide_eq_false Xs;have e2:decide (i≥2^63)=false:=decide_eq_false Xs;rw[e1,e2,Bool.or_false]) (by rw[h1];simpa using h2) ⟨.str ⟨#[c]⟩,H,I.tok _,⟨_,rfl⟩,q⟩) hs
theorem Za(its:List Value)(n j:Nat)(u:Value):Obj.mapSeq (·.setIfInBounds j u) {cls:= .type "list",data:= .seq its.toArray n}={cls:= .type "list",data:= .seq (its.set j u).toArray n}:=by
 simp[Obj.mapSeq]
theorem Inv.lst{pins:List (Addr×Obj)}{σ:St}{H:Hp}{s:Shared}{p:Addr}{xs:List V}(I:Inv X pins σ H s)(h:H p=some (.lst xs)):
  ∃(its:List Value)(n:Nat),Vals xs its∧s.heap.get? p=some {cls:= .type "list",data:= .seq its.toArray n}∧xs.length≤sizeLine:=by
 obtain⟨z,its,n,r,e⟩:=I.bL p _ h;exact⟨its,n,r,e,z⟩
theorem Inv.HE{pins:List (Addr×Obj)}{σ:St}{H:Hp}{s:Shared}{p:Addr}{xs ys:List V}{its its':List Value}{n n':Nat}{f:Obj→Obj}(I:Inv X pins σ H s)(h:H p=some (.lst xs))
  (ho:s.heap.get? p=some {cls:= .type "list",data:= .seq its.toArray n}) (hf:f {cls:= .type "list",data:= .seq its.toArray n}={cls:= .type "list",data:= .seq its'.toArray n'}) (r:Vals ys its') (hz:ys.length≤sizeLine) (t:Nat):
  Inv X pins σ (upd H p (.lst ys)) {s with heap:=s.heap.update p f,toks:=t}:=by
 have e:(s.heap.update p f).get? p=some {cls:= .type "list",data:= .seq its'.toArray n'}:=by
  rw[Heap.get?_update_self f ho (by rw[hf]<;>rfl),hf]
 refine I.write (x:=p) (e:=p) (by rw[h];trivial) (.inl rfl) (fun b u hb q=>(Heap.get?_update_other _ _ (Ne.symm hb)).trans q) ⟨_,e⟩ ?_;exact⟨hz,its',n',r,e⟩
inductive FR(o:V)(i:V)(v:V)(H:Hp)(Q:(Hp→Prop)):Prop
 |mk (p:_) (xs:_) (k:_) (j:_) (_:o= .ref p) (_:i= .int k) (_:H p=some (.lst xs)) (_:BY xs.length k=some j) (_:Q (upd H p (.lst (xs.set j v)))):FR o i v H Q
theorem set_list:Kx X FR:=by
 intro pins s σ H o i v ov iv u Q I ro ri rv h;obtain⟨p,xs,k,j,rfl,rfl,hp,hj,q⟩:=h;cases ro;obtain⟨t,rfl⟩:=ri;obtain⟨its,n,r,ho,hz⟩:=I.lst hp;obtain⟨h1,h2,h3,h4⟩:=YW hj;have hl:=r.length;have hn:=oH;have I':Inv X pins σ (upd H p (.lst (xs.set j v))) {s with heap:=s.heap.update p (Obj.mapSeq (·.setIfInBounds j u))}:=
  I.HE hp ho (Za its n j u) (r.set rv j) (by rw[List.length_set];exact hz) s.toks
 by_cases h0:0≤k
 ·have hk:k.toNat=j:=by
   rw[seqIndex_of h0 h4]at h1;exact Option.some.inj h1
  exact PySem.W.ki_setAt ho h0 Xs (by rw[List.size_toArray,←hl];exact h4) (by rw[hk];exact⟨_,I',q⟩)
 ·have hk:(k+(its.toArray.size:Int)).toNat=j:=by
   rw[seqIndex_neg Xs h3]at h1;rw[List.size_toArray,←hl];exact Option.some.inj h1
  exact PySem.W.ki_setBack ho Xs (by rw[List.size_toArray,←hl];exact h3) (Xx) (by rw[hk];exact⟨_,I',q⟩)
theorem ui(lo hi:Option Int)(n:Nat):(sliceBounds lo hi none n).1=((HT.kc n 0 lo:Nat):Int)∧(sliceBounds lo hi none n).2.1=((HT.kc n n hi:Nat):Int)∧(sliceBounds lo hi none n).2.2=1:=by
 refine⟨?_,?_,rfl⟩
 ·cases lo with
  |none=>simp[sliceBounds,HT.kc]
  |some i=>
   simp only[sliceBounds,HT.kc,Option.getD_none,show(1:Int)>0 by decide,if_true];by_cases h:i<0
   ·simp only[h,if_true]<;>lia
   ·simp only[h,if_false]<;>lia
 ·cases hi with
  |none=>simp[sliceBounds,HT.kc]
  |some i=>
   simp only[sliceBounds,HT.kc,Option.getD_none,show(1:Int)>0 by decide,if_true];by_cases h:i<0
   ·simp only[h,if_true]<;>lia
   ·simp only[h,if_false]<;>lia
theorem sj(its:List Value)(lo hi:Option Int):slicePick its.toArray lo hi none=((its.drop (HT.kc its.length 0 lo)).take (HT.kc its.length its.length hi-HT.kc its.length 0 lo)).toArray:=by
 obtain⟨h1,h2,h3⟩:=ui lo hi its.toArray.size;unfold slicePick;rw[h1,h2,h3];simp only[sliceRange_one,pick_run,List.size_toArray]<;>rfl
inductive HF(K:PySem.W.Frag)(x:V)(lo:Option Int)(hi:Option Int)(H:Hp)(Q:VK):Prop
 |mk (a:_) (xs:_) (_:x= .ref a) (_:iF K H a xs) (_:∀p,H p=none→Q (.ref p) (upd H p (.lst (uf xs lo hi)))):HF K x lo hi H Q
theorem Eo:MI X (HF X.K):=by
 intro pins s σ H x v vl vu lo hi sl Q I rx hs pl pu h;obtain⟨a,xs,rfl,hx,q⟩:=h;cases rx;obtain⟨its,r,ht,hz⟩:=I.list hx;have hlen:=r.length;refine⟨"list",_,slot_list_getitem.lookup,ht.isList.typeIs,?_⟩;refine wpAny_getItem_list_slice ht.isList hs pl pu .none (XA) ?_ (by rw[List.size_toArray]<;>omega);rw[sj,←hlen];refine⟨.ref s.heap.objs.size,_,I.laid (t':=s.toks) (o:= .lst (uf xs lo hi)) (fun b ob q=>Xl q) (Nat.le_refl _) ?_,rfl,q _ (I.bL.fresh (Nat.le_refl _))⟩;exact⟨Nat.le_trans (wb xs lo hi) hz,_,0,(r.drop (HT.kc xs.length 0 lo)).take (HT.kc xs.length xs.length hi-HT.kc xs.length 0 lo),Heap.get?_push_size _ rfl⟩
def pO:V→Bool
 | .cD=>true
 | .bl _=>true
 | .int _=>true
 | .str _=>true
 | _=>false
def vJ:V→V→Bool
 | .cD, .cD=>true
 | .bl a, .bl b=>a==b
 | .bl a, .int b=>(if a then 1 else 0)==b
 | .int a, .bl b=>a==(if b then 1 else 0)
 | .int a, .int b=>a==b
 | .str a, .str b=>a==b
 | _,_=>false
theorem uj{A:Around}{s:Shared}{y x:V}{u v:Value}(ry:RelV y u)(rx:RelV x v)(fy:pO y=true)(fx:pO x=true):SeqAt.EqAt A s u v (vJ y x):=by
 cases y with
 |cD=>
  cases ry;cases x with
  |cD=>cases rx;exact SeqAt.EqAt.same _
  |bl b=>cases rx;exact SeqAt.EqAt.none_bool b
  |int b=>obtain⟨t,rfl⟩:=rx;exact SeqAt.EqAt.none_int b t
  |str b=>obtain⟨t,rfl⟩:=rx;exact SeqAt.EqAt.none_str b t
  | _=>exact absurd (show false=true from fx) Bool.false_ne_true
 |bl a=>
  cases ry;cases x with
  |cD=>cases rx;exact SeqAt.EqAt.bool_none a
  |bl b=>cases rx;exact SeqAt.EqAt.bool_bool a b
  |int b=>obtain⟨t,rfl⟩:=rx;exact SeqAt.EqAt.bool_int a b t
  |str b=>obtain⟨t,rfl⟩:=rx;exact SeqAt.EqAt.bool_str a b t
  | _=>exact absurd (show false=true from fx) Bool.false_ne_true
 |int a=>
  obtain⟨t',rfl⟩:=ry;cases x with
  |cD=>cases rx;exact SeqAt.EqAt.int_none a t'
  |bl b=>cases rx;exact SeqAt.EqAt.int_bool a t' b
  |int b=>obtain⟨t,rfl⟩:=rx;exact SeqAt.EqAt.int_int a t' b t
  |str b=>obtain⟨t,rfl⟩:=rx;exact SeqAt.EqAt.int_str a t' b t
  | _=>exact absurd (show false=true from fx) Bool.false_ne_true
 |str a=>
  obtain⟨t',rfl⟩:=ry;cases x with
  |cD=>cases rx;exact SeqAt.EqAt.str_none a t'
  |bl b=>cases rx;exact SeqAt.EqAt.str_bool a t' b
  |int b=>obtain⟨t,rfl⟩:=rx;exact SeqAt.EqAt.str_int a t' b t
  |str b=>obtain⟨t,rfl⟩:=rx;exact SeqAt.EqAt.str_str a t' b t
  | _=>exact absurd (show false=true from fx) Bool.false_ne_true
 | _=>exact absurd (show false=true from fy) Bool.false_ne_true
theorem uk:h_ X (.builtin "len") (fun xs H Q=>∃p ys,xs=[.ref p]∧(iF X.K H p ys∨BB X.K H p ys)∧Q (.int ys.length) H):=by
 intro pins s σ H xs us Q I r h;obtain⟨p,ys,rfl,hq,q⟩:=h;obtain⟨u,rfl,rx⟩:=vals1 r;cases rx;have hn:=oH;rcases hq with hq|hq
 ·obtain⟨its,r',pl,hz⟩:=I.list hq;have hlen:=r'.length;exact Calls.call_len_list pl.isList (by simp only[List.size_toArray]<;>omega) ⟨.int ys.length,H,I.tok _,⟨s.toks+1,by rw[List.size_toArray,hlen]⟩,q⟩
 ·obtain⟨its,r',pl,hz⟩:=I.tuple hq;have hlen:=r'.length;exact len_tuple pl (by simp only[List.size_toArray]<;>omega) ⟨.int ys.length,H,I.tok _,⟨s.toks+1,by rw[List.size_toArray,hlen]⟩,q⟩
theorem mY:h_ X (.builtin "len") (fun xs H Q=>∃z,xs=[.str z]∧z.length≤sizeLine∧Q (.int z.length) H):=by
 intro pins s σ H xs us Q I r h;obtain⟨z,rfl,hz,q⟩:=h;obtain⟨u,rfl,t,rfl⟩:=vals1 r;have hn:=oH;exact len_str Xs ⟨.int z.length,H,I.tok _,⟨_,rfl⟩,q⟩
theorem um:h_ X (.type "list") (fun xs H Q=>∃p ys,xs=[.ref p]∧(iF X.K H p ys∨BB X.K H p ys)∧∀l,H l=none→Q (.ref l) (upd H l (.lst ys))):=by
 intro pins s σ H xs us Q I r h;obtain⟨p,ys,rfl,hq,q⟩:=h;obtain⟨u,rfl,rx⟩:=vals1 r;cases rx;have fin:∀(its:List Value),Vals ys its→ys.length≤sizeLine→∀(h':Heap)(c':Nat),(∀b o',s.heap.get? b=some o'→h'.get? b=some o')→
   h'.get? s.heap.objs.size=some {cls:= .type "list",dict:=none,data:= .seq its.toArray c',slots:=#[]}→EP X pins σ Q (.ref s.heap.objs.size) {s with heap:=h'}:=fun its r' hz h' c' kp e=>
  ⟨.ref s.heap.objs.size,_,I.laid (t':=s.toks) kp (Nat.le_refl _) (show cF X.prog X.w _ h' _ (.lst ys)from⟨hz,its,c',r',e⟩),rfl,q _ (I.bL.fresh (Nat.le_refl _))⟩
 rcases hq with hq|hq
 ·obtain⟨its,r',pl,hz⟩:=I.list hq;have hlen:=r'.length;obtain⟨o,ho,hc,n,hd⟩:=pl.isList;exact call_list_seq p (.inl rfl) ho hc hd (fun h' c' kp e=>fin its r' hz h' c' kp e) (by simp only[List.size_toArray]<;>omega)
 ·obtain⟨its,r',pl,hz⟩:=I.tuple hq;have hlen:=r'.length;obtain⟨o,ho,hc,n,hd⟩:=pl;exact call_list_seq p (.inr rfl) ho hc hd (fun h' c' kp e=>fin its r' hz h' c' kp e) (by simp only[List.size_toArray]<;>omega)
def Oy(K:PySem.W.Frag)(T:String)(x:V)(H:Hp):Prop:=match x with
 | .str _=>T="str"
 | .int _=>T="int"
 | .ref p=>(T="list"∧∃xs,iF K H p xs)∨(T="tuple"∧∃o,K.lookup p=some o∧o.cls= .type "tuple"∧o.dict=none)∨
   (T="dict"∧((∃kvs,H p=some (.dK kvs))∨∃kvs,H p=some (.dT kvs)))∨(T="set"∧∃S n,H p=some (.set S n))
 | _=>False
theorem B0{pins:List (Addr×Obj)}{σ:St}{H:Hp}{s:Shared}{T:String}{x:V}{v:Value}(I:Inv X pins σ H s)(r:RelV x v)(ty:Oy X.K T x H):
  s.TypeIs v T∧∀a,v= .ref a→∃ob,s.heap.get? a=some ob∧ob.dict=none:=by
 cases x with
 |str z=>
  obtain⟨t,rfl⟩:=r;cases(show T="str" from ty);exact⟨typeIs_str s z t,fun _ e=>nomatch e⟩
 |int i=>
  obtain⟨t,rfl⟩:=r;cases(show T="int" from ty);exact⟨typeIs_int s i t,fun _ e=>nomatch e⟩
 |ref p=>
  cases r;rcases ty with⟨rfl,xs,hq⟩|⟨rfl,o,hk,hc,hd⟩|⟨rfl,hk⟩|⟨rfl,S,n,hk⟩
  ·obtain⟨its,_,pl,_⟩:=I.list hq;refine⟨pl.isList.typeIs,fun a e=>?_⟩;cases e;obtain⟨o,n,e,c,hd,_⟩:=pl;exact⟨o,e,hd⟩
  ·refine⟨⟨o,I.oC p o hk,hc⟩,fun a e=>?_⟩;cases e;exact⟨o,I.oC _ o hk,hd⟩
  ·have z:∃o,s.heap.get? p=some o∧o.ExactDict:=by
    rcases hk with⟨kvs,hk⟩|⟨kvs,hk⟩
    ·obtain⟨_,_,_,_,o,_,_,e,ex,_⟩:=I.bL p _ hk;exact⟨o,e,ex⟩
    ·obtain⟨_,_,_,_,o,_,_,e,ex,_⟩:=I.bL p _ hk;exact⟨o,e,ex⟩
   obtain⟨o,e,ex⟩:=z;refine⟨⟨o,e,ex.1⟩,fun a e2=>?_⟩;cases e2;exact⟨o,e,ex.2.1⟩
  ·obtain⟨o,_,_,_,e,ex,_⟩:=I.bL p _ hk;refine⟨⟨o,e,ex.1⟩,fun a e2=>?_⟩;cases e2;exact⟨o,e,ex.2.1⟩
 | _=>exact False.elim ty
def KZ(K:PySem.W.Frag)(T:String)(r:V→List V→Hp→VK→Prop)(to:TE):TE:=fun σ H Q=>to σ H fun x H1=>Oy K T x H1∧r x [] H1 Q
def Q8(K:PySem.W.Frag)(T:String)(r:V→List V→Hp→VK→Prop)(to:TE)(t:TA):TE:=fun σ H Q=>to σ H fun x H1=>Oy K T x H1∧t σ H1 fun xs H2=>r x xs H2 Q
variable{o e:Expr}{es:List Expr}{to:TE}{t:TA}{name:Str}{apos dO:Pos}{T id:String}{r:V→List V→Hp→VK→Prop}
theorem HH(pa:PlainAttrs T)(slot:Slot T name id)(Bl:typeOf (.builtin id)=pure (.type "method_descriptor"))(hm:MJ X id r)(ho:PE X o to)
  (mZ:attributeBase o name X.env (eval o X.env)=eval o X.env:=by rfl) (m3:(apos.endLine==dO.line)=true:=by rfl):PE X (.Call (.Attribute o name apos) [] [] dO) (KZ X.K T r to):=by
 intro pins s σ H Q I h;refine wpAny_Call_method0_late mZ m3 (cj (ho pins s σ H _ I h) fun v s1 ⟨x,H1,I1,r1,ty,q1⟩=>?_);obtain⟨h1,h2⟩:=B0 I1 r1 ty;exact⟨T,id,pa,slot,Bl,h1,h2,Calls.callWith_builtin rfl (PySem.evalArgs_none (hm pins s1 σ H1 x [] v [] Q I1 r1 .nil q1))⟩
theorem K0(pa:PlainAttrs T)(slot:Slot T name id)(Bl:typeOf (.builtin id)=pure (.type "method_descriptor"))(hm:MJ X id r)(ho:PE X o to)(ha:PA X (e::es) t)
  (mZ:attributeBase o name X.env (eval o X.env)=eval o X.env:=by rfl)
  (B1:((backTo dO (starEach (e::es) X.env)).all (fun x=>!x.1)&&(backToKw dO (keywordEach [] X.env)).all (fun x=>x.1.isSome)
   &&decide ((e::es).length+([]:List Keyword).length+(if ([]:List Keyword).isEmpty then 0 else 1)<30))=true:=by rfl)
  (m3:(apos.endLine==dO.line)=true:=by rfl) (hs:starEach (e::es) X.env=(false,eval e X.env)::starEach es X.env:=by rfl) (YH:(backTo dO (starEach es X.env)).any (·.1)=false:=by rfl):
  PE X (.Call (.Attribute o name apos) (e::es) [] dO) (Q8 X.K T r to t):=by
 intro pins s σ H Q I h;refine wpAny_Call_method_late mZ B1 m3 rfl (cj (ho pins s σ H _ I h) fun v s1 ⟨x,H1,I1,r1,ty,q1⟩=>?_);obtain⟨h1,h2⟩:=B0 I1 r1 ty;refine⟨T,id,pa,slot,Bl,h1,h2,?_⟩;have hA:=ha dO pins s1 σ H1 _ I1 q1;rw[hs]at hA⊢;refine Calls.callWith_builtin (by show(false||(backTo dO (starEach es X.env)).any (·.1))=false;rw[YH]<;>rfl) (Calls.evalArgs_plain ?_);exact cj hA fun us s2 ⟨vs,H2,I2,r2,q2⟩=>hm pins s2 σ H2 x vs v us Q I2 r1 r2 q2
end
def Oz(X:Cx)(id:String)(r:V→List V→Hp→VK→Prop):Prop:=
 ∀(pins:List (Addr×Obj))(s:Shared)(σ:St)(H:Hp)(x:V)(xs:List V)(v:Value)(us:List Value)(Q:VK),Inv X pins σ H s→RelV x v→Vals xs us→r x xs H Q→
  wpAny (model X.prog X.w) X.A (call (.builtin id) (v::us)) (EP X pins σ Q) X.xe s
theorem Vals.one:∀{x:V}{us:List Value},Vals [x] us→∃u,us=[u]∧RelV x u
 | _,_, .cons r .nil=>⟨_,rfl,r⟩
theorem Vals.zero:∀{us:List Value},Vals [] us→us=[]
 | _, .nil=>rfl
theorem Vals.reverse{xs:List V}{us:List Value}(h:Vals xs us):Vals xs.reverse us.reverse:=by
 induction h with
 |nil=>exact .nil
 |cons r t ih=>rw[List.reverse_cons,List.reverse_cons];exact Vals.append ih (.cons r .nil)
theorem Vals.rep{xs:List V}{us:List Value}(h:Vals xs us):∀k:Nat,Vals (List.replicate k xs).flatten (List.replicate k us).flatten
 |0=> .nil
 |k+1=>by
  rw[List.replicate_succ,List.replicate_succ,List.flatten_cons,List.flatten_cons];exact Vals.append h (Vals.rep h k)
theorem foldl_rep(its:List Value):∀(k:Nat)(acc:List Value),
  List.foldl (fun x1 x2=>x1++x2) acc.toArray (List.replicate k its.toArray)=(acc++(List.replicate k its).flatten).toArray
 |0,acc=>XA
 |k+1,acc=>by
  have e:acc.toArray++its.toArray=(acc++its).toArray:=XA;have e2:(acc++its)++(List.replicate k its).flatten=acc++(List.replicate (k+1) its).flatten:=by
   rw[List.replicate_succ,List.flatten_cons,List.append_assoc]
  rw[←e2,←foldl_rep its k (acc++its),←e,List.replicate_succ,List.foldl_cons]
section
variable{X:Cx}{pins:List (Addr×Obj)}{σ:St}{H:Hp}{s:Shared}{l b:Addr}{xs ys zs:List V}
theorem Inv.HI{its its':List Value}{n:Nat}{f:Array Value→Array Value}{t':Nat}(I:Inv X pins σ H s)(hH:H l=some (.lst xs))
  (e:s.heap.get? l=some {cls:= .type "list",data:= .seq its.toArray n}) (hf:f its.toArray=its'.toArray) (hv:Vals ys its') (hz:ys.length≤sizeLine):
  Inv X pins σ (upd H l (.lst ys)) {s with heap:=s.heap.update l (Obj.mapSeq f),toks:=t'}:=by
 have q:=PySem.IsL.update e f;rw[hf]at q;refine I.write (x:=l) (e:=l) (by rw[hH];exact trivial) (.inl rfl) (fun b' u hb hu=>(Heap.get?_update_other s.heap (Obj.mapSeq f) (Ne.symm hb)).trans hu) ⟨_,q⟩ ?_;exact⟨hz,its',_,hv,q⟩
theorem Inv.OA{its:List Value}{t':Nat}(I:Inv X pins σ H s)(hv:Vals ys its)(hz:ys.length≤sizeLine):
  Inv X pins σ (upd H s.heap.objs.size (.lst ys)) {s with heap:=s.heap.push {cls:= .type "list",data:= .seq its.toArray},toks:=t'}:=
 I.laid (fun _ _ q=>Xl q) (Nat.le_refl _) ⟨hz,its,0,hv,Heap.get?_push_size _ rfl⟩
theorem Inv.fresh(I:Inv X pins σ H s):H s.heap.objs.size=none:=I.bL.fresh (Nat.le_refl _)
theorem Inv.B2(I:Inv X pins σ H s)(hH:H l=some (.lst xs)):xs.length≤sizeLine∧∃(its:List Value)(n:Nat),Vals xs its∧xs.length=its.length∧s.heap.get? l=some {cls:= .type "list",data:= .seq its.toArray n}:=by
 obtain⟨z,its,n,r,e⟩:=I.bL l _ hH;exact⟨z,its,n,r,r.length,e⟩
theorem we{n:Nat}(h:n≤sizeLine):Builtin.List.listTooLong n=false:=by
 unfold Builtin.List.listTooLong;exact decide_eq_false Xs
end
section
variable{X:Cx}
inductive Yc(x:V)(vs:List V)(H:Hp)(Q:VK):Prop
 |mk (l:_) (xs:_) (y:_) (_:x= .ref l) (_:vs=[y]) (_:H l=some (.lst xs)) (_:xs.length<sizeLine) (_:Q .cD (upd H l (.lst (xs++[y])))):Yc x vs H Q
theorem cn:Oz X "list.append" Yc:=by
 intro pins s σ H x vs v us Q I rx rv h;obtain⟨l,xs,y,rfl,rfl,hH,hz,q⟩:=h;cases rx;obtain⟨u,rfl,ru⟩:=rv.one;obtain⟨z,its,n,r,hl,e⟩:=I.B2 hH;refine call_meets F.slot_list_append ⟨_,e,rfl⟩ F.entry_list_append (F.args_list_append_2 _ _) (PySem.list_append l its.toArray n u (by rw[List.size_toArray];omega)) ⟨e,?_⟩;refine⟨.cD,_,I.HI (its':=its++[u]) hH e Xr (r.append (.cons ru .nil)) ?_,rfl,q⟩;rw[List.length_append,List.length_singleton];omega
def Ep:V→List V→Hp→VK→Prop:=fun x vs H Q=>∃l b xs zs,x= .ref l∧vs=[.ref b]∧H l=some (.lst xs)∧H b=some (.lst zs)∧xs.length+zs.length≤sizeLine∧Q .cD (upd H l (.lst (xs++zs)))
theorem tJ:Oz X "list.extend" Ep:=by
 intro pins s σ H x vs v us Q I rx rv h;obtain⟨l,b,xs,zs,rfl,rfl,hH,hB,hz,q⟩:=h;cases rx;obtain⟨u,rfl,ru⟩:=rv.one;cases ru;obtain⟨z,its,n,r,hl,e⟩:=I.B2 hH;obtain⟨z2,gD,n2,r2,B4,e2⟩:=I.B2 hB;have hsz:its.toArray.size+gD.toArray.size≤sizeLine:=by rw[List.size_toArray,List.size_toArray];omega
 have B5:¬(!its.toArray.isEmpty&&Builtin.List.listTooLong (its.toArray.size+gD.toArray.size))=true:=by
  rw[we hsz,Bool.and_false];exact Bool.false_ne_true
 refine call_meets F.slot_list_extend ⟨_,e,rfl⟩ F.entry_list_extend (F.args_list_extend_2 _ _)
  (AutoSeq1.list_extend_list_list_0 l its.toArray n b gD.toArray n2 B5 (by rw[List.size_toArray];omega) (Xx)) ⟨e,e2,?_⟩
 refine⟨.cD,_,I.HI (its':=its++gD) hH e Xr (r.append r2) ?_,rfl,q⟩;rw[List.length_append];omega
def B6:V→List V→Hp→VK→Prop:=fun x vs H Q=>∃l xs,x= .ref l∧vs=[]∧H l=some (.lst xs)∧Q .cD (upd H l (.lst xs.reverse))
theorem ZK:Oz X "list.reverse" B6:=by
 intro pins s σ H x vs v us Q I rx rv h;obtain⟨l,xs,rfl,rfl,hH,q⟩:=h;cases rx;have OB:=rv.zero;subst OB;obtain⟨z,its,n,r,hl,e⟩:=I.B2 hH;refine call_meets F.slot_list_reverse ⟨_,e,rfl⟩ F.entry_list_reverse (F.args_list_reverse_1 _) (AutoSeq1.list_reverse_list_0 l its.toArray n (by rw[List.size_toArray];omega)) ⟨e,?_⟩;refine⟨.cD,_,I.HI (its':=its.reverse) hH e Xr r.reverse ?_,rfl,q⟩;rw[List.length_reverse];omega
def OC:R2:=fun x y H Q=>∃l k xs,x= .ref l∧y= .int k∧H l=some (.lst xs)∧-(2^63)≤k∧k<2^63∧xs.length*k.toNat≤sizeLine∧
 ∀p,H p=none→Q (.ref p) (upd H p (.lst (List.replicate k.toNat xs).flatten))
theorem len_rep{α:Type}(xs:List α)(k:Nat):(List.replicate k xs).flatten.length=k*xs.length:=by
 induction k with
 |zero=>simp
 |succ k ih=>rw[List.replicate_succ,List.flatten_cons,List.length_append,ih,Nat.succ_mul,Nat.add_comm]
theorem HJ:qE X (binaryOp .Mult) OC:=by
 intro pins s σ H x y v u Q I rx ry h;obtain⟨l,k,xs,rfl,rfl,hH,h1,h2,hz,q⟩:=h;cases rx;obtain⟨t,rfl⟩:=ry;obtain⟨z,its,n,r,hl,e⟩:=I.B2 hH;have hlen:its.toArray.size*k.toNat≤sizeLine:=by rw[List.size_toArray,←hl];exact hz
 have OD:¬its.toArray.size*k.toNat>(2^63-1)/8:=by
  have:(sizeLine:Nat)≤(2^63-1)/8:=Xy;omega
 have OE:¬(!Builtin.List.listFitsIndex k)=true:=by
  rw[fitsIndex_both h1 h2];exact Bool.false_ne_true
 have B5:¬Builtin.List.listTooLong (its.toArray.size*k.toNat)=true:=by
  rw[we hlen];exact Bool.false_ne_true
 have Ap:List.foldl (fun x1 x2=>x1++x2) #[] (List.replicate (if its.toArray.isEmpty=true then 0 else k.toNat) its.toArray)=(List.replicate k.toNat its).flatten.toArray:=by
  have f0:∀m:Nat,List.foldl (fun x1 x2=>x1++x2) #[] (List.replicate m its.toArray)=(List.replicate m its).flatten.toArray:=fun m=>by
   have:=foldl_rep its m [];rw[List.nil_append]at this;exact this
  rw[f0];cases its with
  |nil=>simp
  |cons a r'=>rw[if_neg Xr]
 refine wpAny_binaryOp_repeat_ref (T:="list") (U:="int") (Xy) ⟨_,e,rfl⟩ (fun s'=>typeIs_int s' k t) noFill_list_mul F.fills_int_mul F.slot_int_rmul repeat_list F.slot_int_index.lookup
  (call_meets F.slot_int_rmul (typeIs_int s k t) F.entry_int_rmul (F.args_int_rmul_2 _ _) (int___rmul___int_list k t l its.toArray n)
   ⟨e,rfl,⟨_,e,rfl⟩,call_meets F.slot_list_mul ⟨_,e,rfl⟩ F.entry_list_mul (F.args_list_mul_2 _ _) (AutoListH.list___mul___list_int_3 l its.toArray n k t OE OD B5) ⟨e,?_⟩⟩)
 rw[Ap];exact⟨.ref _,_,I.OA (t':=s.toks) (r.rep k.toNat) (by rw[len_rep,Nat.mul_comm];exact hz),rfl,q _ I.fresh⟩
end
section
variable{prog:Program}{w:World}{A:Around}{E:Value→Shared→Prop}{s:Shared}
end
section
variable{X:Cx}
end
end L2
namespace Q9
open PySem PySem.W PySem.Calls PyProof.Rows
theorem p5{P:Params}{h:Heap}:∀(ns:List Int)(vs:List Value),WellAll P h vs (ns.map WData.int)→IntsAre vs ns:=by
 intro ns
 induction ns with
 |nil=>
  intro vs w;rw[List.map_nil]at w;cases w;exact .nil
 |cons n ns ih=>
  intro vs w;rw[List.map_cons]at w;cases w with
  |cons a b=>
   cases a;exact .cons _ _ (ih _ b)
theorem Aq{l:OpenLaw}{n:Nat}(hn:l.most=some n){P:Params}{h:Heap}{args:List WData}{vals:List Value}
  (As:l.row.toRowW.claim.pre args=true) (K1:WellAll P h vals args):
  ∃a vs ns,vals=[Value.ref a]∧args=[WData.list (ns.map WData.int)]∧h.get? a=some {cls:= .type "list",data:= .seq vs.toArray}∧IntsAre vs ns∧ns.length≤n:=by
 have K2:WShape.hasAll [] args [.list .int]=true:=(pre_splitW As).1;have hc:l.pre.holds [] {args:=args}=true:=(pre_splitW As).2;obtain⟨d,r,rfl,h1,h2⟩:=hasAllW_cons K2;obtain rfl:=hasAllW_nil h2;obtain⟨xs,rfl,h3⟩:=hasW_list h1;obtain⟨ns,rfl⟩:=items_int h3;have hlen:ns.length≤n:=by
  unfold OpenLaw.pre at hc;have h4:(WTm.not (.lt (.lit (.int (n:Int))) (.len (.arg 0)))).holds [] {args:=[.list (ns.map .int)]}=true:=by
   have h4:=(holds_andW hc).1;rw[hn]at h4;exact h4
  have h5:=condW_of h4 (w_not (w_lt w_lit (w_len_list (w_arg rfl))));rw[List.length_map]at h5;refine Nat.le_of_not_lt fun q=>?_
  have q':(n:Int)<((ns.length:Nat):Int):=Xx;first
   |(rw[decide_eq_true q']at h5;exact absurd h5 (Xy))
   |(simp at h5;omega)
 cases K1 with
 |cons w1 w2=>
  cases w2;cases w1 with
  |list ho OF=>exact⟨_,_,ns,rfl,rfl,ho,p5 ns _ OF,hlen⟩
theorem Au(l:OpenLaw)(args:List WData):l.row.toRowW.claim.post args (.bool true) args=true:=
 postW_of (r:=l.row.toRowW) (X:=(true==true))
  (show WShape.has [] (.bool true) .bool=true by first|rfl|decide|simp[WShape.has,WShape.arms,WShape.armsAll])
  (show(WTm.eq .res (.lit (.bool true))).value [] {args:=args,res:=some (.bool true),after:=args}=some (.bool (true==true))from w_eq_bool (w_res rfl) w_lit) rfl
theorem wg{l:OpenLaw}{n:Nat}{q:Program}{loose:List Str}{XP:(Str→Option Value)→Heap→Prop}{YP:World→Heap→Prop}{d:DefRec}
  (hn:l.most=some n) (K3:d.params.defaults=[])
  (call:∀(w:World)(cU bT:Shared)(mg mb:Str→Option Value)(fa:Addr)(o:Obj)(pm cd doc:Value)(a:Addr)(vs:List Value)(ns:List Int),
   Ground q loose [] XP w cU mg mb bT.heap→YP w bT.heap→
   bT.heap.get? fa=some o→o.data= .func (docDef d.name d.params d.body d.scope pm cd doc)→bT.heap.CodeRec cd d.name→mg d.name=some (.ref fa)→
   bT.heap.get? a=some {cls:= .type "list",data:= .seq vs.toArray}→IntsAre vs ns→ns.length≤n→bT.gens=#[]→
   codeAny (model l.prog w) callerA (.call (.ref fa) ⟨[.ref a],[]⟩) (fun r s'=>r= .ok (.ret (.bool true))∧OldK bT.heap s'.heap∧s'.os=bT.os∧AllBare s'.gens) bT):
  WalkO q loose XP YP l.row.toRowW d [] (fun f vs=>PySem.call f vs):=by
 intro w cU bT mg mb G Y fa o pm cd doc dV kV ho hd Ab hD K4 hg args vals as As TN Wn K1 JK;obtain rfl:dV= .none:=Dflts.none hD K3;obtain rfl:kV= .none:=Dflts.noKw hD;obtain⟨a,vs,ns,rfl,rfl,HK,hints,hlen⟩:=Aq hn As K1;refine enter_call (codeAny_mono (call w cU bT mg mb fa o pm cd doc a vs ns G Y ho (fd_plain hd) Ab K4 HK hints hlen hg) fun r s' hq=>?_);obtain⟨rfl,h2,h3,h4⟩:=hq;exact⟨.inl ⟨.bool true, .bool true,[],rfl,fun _=>rfl, .bool true,Au l _,fun _=>⟨List.Pairwise.nil,fun _ hm=>(nomatch hm)⟩⟩,h2,h3,h4⟩
section
variable{prog:Program}{w:World}{A:Around}{E:Value→Shared→Prop}{s:Shared}{K:Frag}
def ledger(h:Heap)(L d:Addr):List (Addr×Obj):=(List.range h.objs.size).filterMap fun a=>if a=L∨a=d then none else(h.get? a).map fun o=>(a,o)
end
end Q9
namespace L2
open PySem PySem.Spec PyProof.Rows
theorem tK:∀{vs:List Value}{ns:List Int},IntsAre vs ns→Vals (ns.map V.int) vs
 | _,_, .nil=> .nil
 | _,_, .cons n t h=> .cons ⟨t,rfl⟩ (tK h)
def HL(H:Hp):Prop:=∀b,H b=none∨∃o xs,H b=some (.qo o (.lst xs))
theorem B7{cm:Bool}{P:Program}{w:World}{K:PySem.W.Frag}{mg mb:Str→Option Value}{CX:BN}{k:Nat}{fa a:Addr}{fd:FuncData}{x:Str}{sp:Sp}{bT:Shared}{vs:List Value}{ns:List Int}
  (KX:K.In bT.heap) (MK:bT.heap.Ns mainGlobals mg) (hb:bT.heap.Ns builtinsNs mb) (TQ:∀x:Str,x≠"__name__"→mb x=bootBuiltins x) (OG:bT.heap.NoLimit) (hg:bT.gens=#[])
  (ha:bT.heap.get? a=some {cls:= .type "list",data:= .seq vs.toArray}) (hi:IntsAre vs ns) (hl:ns.length≤sizeLine) (hr:d7 cm k callerA)
  (F:∀base:Heap,K.In base→base.Ns mainGlobals mg→aY P w K mg base CX cm k fa fd [x] sp) (K5:∀(s:Shared)(u:Value),BindsTo s fd ⟨[u],[]⟩ [(x,u)])
  (DM:∀H:Hp,HL H→iF K H a (ns.map V.int)→sp [.ref a] H (fun v _=>v= .bl true) fun _ _ _=>False)
  (OH:∀H e s',CX [] H bT (fun _ _ _=>False) e s'→False):
  codeAny (model P w) callerA (.call (.ref fa) ⟨[.ref a],[]⟩) (fun r s'=>r= .ok (.ret (.bool true))∧OldK bT.heap s'.heap∧s'.os=bT.os∧AllBare s'.gens) bT:=by
 have rv:=tK hi;have OI:=hi.length;have core:∀H:Hp,HL H→iF K H a (ns.map V.int)→kb P w H bT.heap→(∀b,H b≠none→b=a)→(H a≠none→K.lookup a=none)→
   codeAny (model P w) callerA (.call (.ref fa) ⟨[.ref a],[]⟩) (fun r s'=>r= .ok (.ret (.bool true))∧OldK bT.heap s'.heap∧s'.os=bT.os∧AllBare s'.gens) bT:=by
  intro H hO hS bL hA hK;have Yv:∀{b:Addr}{o:Obj},bT.heap.get? b=some o→H b=none→(t6 bT.heap H).get? b=some o:=fun e n=>By e n
  have KN:∀{b:Addr}{o:Obj}{es:Array DictEntry}{ep:Nat},bT.heap.get? b=some o→o.data= .dict es ep→H b=none:=fun{b o es ep} e d=>by
   cases q:H b with
   |none=>rfl
   |some u=>
    have e':b=a:=hA b (by rw[q];simp);subst e';rw[ha]at e;cases e;have d':Data.seq vs.toArray _=Data.dict es ep:=d;cases d'
  have MN:∀{b:Addr}{m:Str→Option Value},bT.heap.Ns b m→(t6 bT.heap H).Ns b m:=fun{b m} ⟨o,es,ep,e,d,r⟩=>⟨o,es,ep,Yv e (KN e d),d,r⟩
  have Q_:K.In (t6 bT.heap H):=fun b o e=>Yv (KX b o e) (by
   cases q:H b with
   |none=>rfl
   |some u=>
    have e':b=a:=hA b (by rw[q];simp);subst e';rw[hK (by rw[q];simp)]at e;cases e)
  have hM:Mod K mg (t6 bT.heap H):=⟨Q_,MN MK,⟨mb,MN hb,TQ⟩,let ⟨mc,h1,h2⟩:=OG;⟨mc,MN h1,h2⟩⟩
  have e0:XW P w K mg (t6 bT.heap H) callerA [] bT H:=⟨rfl,hM,fun b o e=>D0 e,Nat.le_of_eq (ZH _ _),trivial,fun b hb=>absurd (show b∈([]:List Addr)from hb) (XA),bL, .of_eq hg⟩
  refine codeAny_mono ((F _ Q_ (MN MK)).run callerA [] bT H ⟨[.ref a],[]⟩ [.ref a] [.ref a] _ _ hr e0 (K5 bT (.ref a)) (.cons rfl .nil) (DM H hO hS)) fun r s' h=>?_
  cases r with
  |error e=>exact(OH H e s' h).elim
  |ok fl=>
   cases fl with
   |next=>exact False.elim h
   |brk=>exact False.elim h
   |cont=>exact False.elim h
   |ret u=>
    obtain⟨v,H',os,bare,un,OJ,r',q⟩:=h;have q':v= .bl true:=q;subst q';obtain rfl:u=Value.bool true:=r';refine⟨rfl,OldK.of_keep fun b o e=>?_,os,bare⟩;cases q:H b with
    |none=>exact un.keep b o e q (by intro z;exact absurd (show b∈([]:List Addr)from z) (XA)) (XA)
    |some u=>
     rcases hO b with z|⟨ob,xs,z⟩
     ·rw[q]at z;cases z
     ·have z2:=un.mT b ob _ z;obtain⟨e1,_⟩:=bL b _ z;obtain⟨e2,_⟩:=OJ b _ z2;rw[e]at e1;cases e1;exact e2
 cases hk:K.lookup a with
 |some o=>
  have e:=KX a o hk;rw[ha]at e;cases e;refine core (fun _=>none) (fun _=> .inl rfl) (.inr ⟨_,vs.toArray,_,hk,rfl,rfl,rfl,by rw[List.size_toArray,OI];exact hl,by simpa using rv⟩) (fun b u z=>by have z':(none:Option HO)=some u:=z;cases z') (fun b z=>absurd rfl z) fun z=>absurd rfl z
 |none=>
  refine core (fun b=>if b=a then some (.qo {cls:= .type "list",data:= .seq vs.toArray} (.lst (ns.map V.int)))else none) (fun b=>?_) (.inl (.inr ⟨{cls:= .type "list",data:= .seq vs.toArray},if_pos rfl⟩)) (fun b u z=>?_) (fun b z=>?_) fun _=>hk
  ·by_cases hb:b=a
   ·exact .inr ⟨_,_,Xo hb⟩
   ·exact .inl (Xk hb)
  ·by_cases hb:b=a
   ·have z':=(Xo hb).symm.trans z;cases z';subst hb;exact⟨ha,by rw[List.length_map];exact hl,vs,_,rv,ha⟩
   ·have z':=(Xk hb).symm.trans z;cases z'
  ·by_cases hb:b=a
   ·exact hb
   ·exact absurd (Xk hb) z
theorem Es{cm:Bool}{l:PySem.W.OpenLaw}{n k:Nat}{q:Program}{loose:List Str}{XP:(Str→Option Value)→Heap→Prop}{YP:World→Heap→Prop}{d:DefRec}{K:Params→PySem.W.Frag}{CX:World→BN}{sp:World→Sp}{x:Str}
  (hn:l.most=some n) (sg:n≤sizeLine) (K3:d.params.defaults=[]) (hr:d7 cm k callerA)
  (hY:∀(w:World)(h:Heap),YP w h→(K w.params).In h)
  (F:∀(w:World)(mg:Str→Option Value)(fa:Addr)(h:Heap),(K w.params).In h→h.Ns mainGlobals mg→mg d.name=some (.ref fa)→
   ∃fd:FuncData,(∀(s:Shared)(u:Value),BindsTo s fd ⟨[u],[]⟩ [(x,u)])∧
    ∀base:Heap,(K w.params).In base→base.Ns mainGlobals mg→aY l.prog w (K w.params) mg base (CX w) cm k fa fd [x] (sp w))
  (DM:∀(w:World)(H:Hp)(a:Addr)(ns:List Int),ns.length≤n→HL H→iF (K w.params) H a (ns.map V.int)→sp w [.ref a] H (fun v _=>v= .bl true) fun _ _ _=>False)
  (OH:∀(w:World)(H:Hp)(s:Shared)(e:Value)(s':Shared),CX w [] H s (fun _ _ _=>False) e s'→False):
  PySem.W.WalkO q loose XP YP l.row.toRowW d [] (fun f vs=>PySem.call f vs):=by
 refine Q9.wg hn K3 fun w cU bT mg mb fa o pm cd doc a vs ns G Y ho hd Ab K4 HK hints hlen hg=>?_
 have KX:=hY w _ Y;obtain⟨fd,hb,hF⟩:=F w mg fa _ KX G.T.g K4;exact B7 KX G.T.g G.T.b G.T.builtins G.T.nolimit hg HK hints (Nat.le_trans hlen sg) hr hF hb (fun H hO hS=>DM w H a ns hlen hO hS) fun H e s'=>OH w H bT e s'
def inClass(s:Stmt)(j:Nat):Stmt:=match s with
 | .ClassDef _ _ _ body _ _ _ _ _ _ _=>body.getD j (.Pass ⟨0,0,0,0⟩)
 | _=> .Pass ⟨0,0,0,0⟩
def eK(s:Stmt):Arguments:=match s with
 | .FunctionDef _ a _ _ _ _ _ _ _ _=>a
 | _=>{posonlyargs:=[],args:=[],vararg:=none,kwonlyargs:=[],kw_defaults:=[],kwarg:=none,defaults:=[]}
def dS(s:Stmt):List Stmt:=match s with
 | .FunctionDef _ _ b _ _ _ _ _ _ _=>b
 | _=>[]
def aq(s:Stmt):Scope:=match s with
 | .FunctionDef _ _ _ _ _ _ sc _ _ _=>sc
 | _=>{kind:= .function,names:=[],isGenerator:=false,isCoroutine:=false}
abbrev E0:XK:=fun _ _ _=>False
structure jY(K:PySem.W.Frag)(x qual:Str)(st:Stmt)(f:Addr)(fd:FuncData):Prop where
 ex:∃(oc:Value)(od:Option Addr)(kV doc pm:Value)(an:Option Addr)(bY ct:Value)(XM:Array (Option Value)),
  fd=PySem.W.fnOf x qual (eK st) (dS st) (aq st) .none kV doc pm an bY ct∧K.lookup f=some ⟨oc,od, .func fd,XM⟩∧PySem.W.codeIn K bY qual=true
 kp:PySem.W.keepIn K (.ref f)=true
section
variable{P:Program}{w:World}{K:PySem.W.Frag}{mg:Str→Option Value}{base:Heap}
theorem jY.binds{x qual:Str}{st:Stmt}{f:Addr}{fd:FuncData}{ps:List Str}(F:jY K x qual st f fd)
  (h:∀(kV doc pm:Value)(an:Option Addr)(bY ct:Value)(us:List Value),us.length=ps.length→bindArgs (PySem.W.fnOf x qual (eK st) (dS st) (aq st) .none kV doc pm an bY ct) ⟨us,[]⟩=pure (ps.zip us)):Binds K fd ps []:=by
 obtain⟨oc,od,kV,doc,pm,an,bY,ct,XM,rfl,lk,Ab⟩:=F.ex;exact .all (h kV doc pm an bY ct)
theorem B8{x qual:Str}{st:Stmt}{f:Addr}{oc:Value}{od an:Option Addr}{XM:Array (Option Value)}{kV doc pm bY ct:Value}(l:K.lookup f=some ⟨oc,od, .func (PySem.W.fnOf x qual (eK st) (dS st) (aq st) .none kV doc pm an bY ct),XM⟩)
  (c:PySem.W.codeIn K bY qual=true) (k:PySem.W.keepIn K (.ref f)=true):jY K x qual st f (PySem.W.fnOf x qual (eK st) (dS st) (aq st) .none kV doc pm an bY ct):=⟨⟨oc,od,kV,doc,pm,an,bY,ct,XM,rfl,l,c⟩,k⟩
end
section
variable{X:Cx}
theorem pv(i:Nat){x:Str}{pos:Pos}(hN:X.N[i]?=some x:=by rfl)(hv:N3 X.env.scope x:=by first|exact Or.inl rfl|exact Or.inr (Or.inl rfl)|exact Or.inr (Or.inr rfl))(hd:(x==("__debug__":Str))=false:=by decide)
  (Ab:(x==("__classdict__":Str))=false:=by decide):PE X (.Name x pos) (Hd i):=He hN hv hd Ab
end
theorem ig{A B:Prop}(h:B):if false=true then A else B:=by
 rw[Xk Bool.false_ne_true];exact h
theorem ko{A B:Prop}(h:A):if true=true then A else B:=by
 rw[if_pos rfl];exact h
theorem bu{c A B:Prop}[Decidable c](h1:c→A)(h2:¬c→B):if c then A else B:=by
 by_cases h:c
 ·rw[Xo h];exact h1 h
 ·rw[Xk h];exact h2 h
def au(H H':Hp):Prop:=∀b o,H b=some o→H' b=some o
theorem au.refl(H:Hp):au H H:=fun _ _ h=>h
theorem au.trans{H H1 H2:Hp}(a:au H H1)(b:au H1 H2):au H H2:=fun c o h=>b c o (a c o h)
theorem au.free{H H':Hp}(e:au H H'){l:Addr}(h:H' l=Option.none):H l=Option.none:=by
 cases q:H l with
 |none=>rfl
 |some o=>
  rw[e l o q]at h;cases h
theorem au.seq{K:PySem.W.Frag}{H H':Hp}{a:Addr}{xs:List V}(e:au H H')(h:iF K H a xs):iF K H' a xs:=by
 rcases h with(h|⟨o,h⟩)|h
 ·exact .inl (.inl (e _ _ h))
 ·exact .inl (.inr ⟨o,e _ _ h⟩)
 ·exact .inr h
section
variable{κ:Type}[DecidableEq κ]
theorem wj{kvs:List (κ×V)}{k:κ}(h:bj kvs k=none):¬k∈kvs.map (·.1):=by
 intro m;obtain⟨p,hp,e⟩:=List.mem_map.mp m;have q:(kvs.any fun kv=>decide (kv.1=k))=true:=List.any_eq_true.mpr ⟨p,hp,decide_eq_true e⟩;rw[gC,h]at q;exact absurd q Xr
theorem Z2{kvs:List (κ×V)}{k:κ}{v:V}(h:bj kvs k=some v):k∈kvs.map (·.1):=by
 have q:(kvs.any fun kv=>decide (kv.1=k))=true:=by
  rw[gC,h];all_goals rfl
 obtain⟨p,hp,e⟩:=List.any_eq_true.mp q;exact List.mem_map.mpr ⟨p,hp,of_decide_eq_true e⟩
end
end L2
namespace L2
open PySem PySem.Spec PyProof.Rows PySem.W
def c8(P:Program)(w:World):BN:=fun outer H s E e s'=>
 ∃(ea:Addr)(cls a0:Value)(B:Heap)(H':Hp),e= .ref ea∧s'.os=s.os∧AllBare s'.gens∧Heap.FlyingW B outer ea cls a0 s'.heap∧
  Un (mQ outer) [] H H' s.heap s'.heap∧kb P w H' B∧(∀b o,s.heap.get? b=some o→H b=none→b∉mQ outer→B.get? b=some o)∧(∀b o,s.heap.get? b=some o→b∉mQ outer→∃o',B.get? b=some o')∧E cls none H'
theorem aT{P:Program}{w:World}{X:Cx}:Passes (c8 P w) X (fun _=>E0):=fun _ _ _ _ _ _ _ ⟨_,_,_,_,_,_,_,_,_,_,_,_,_,h⟩=>h.elim
structure MO(X:Cx)(E:St→XK):Prop where
 raise:∀(pins:List (Addr×Obj))(σ:St)(H:Hp)(s:Shared)(h':Heap)(e:Addr)(cls:Value)(args:List Value),Inv X pins σ H s→Heap.MadeExcOf s.heap h' e cls args→E σ cls none H→X.xe (.ref e) {s with heap:=h'}
 pass:Passes (c8 X.prog X.w) X E
 own:PassesOwn (model X.prog X.w) X.A X.env X.xe
theorem kb.hide{P:Program}{w:World}{H:Hp}{h:Heap}{as:List Addr}(ok:kb P w H h)(hf:∀b∈as,H b=none):kb P w H (hideAll h as):=fun a o e=>
 (ok a o e).t5 (fun b u hb q=>hideAll_get _ q fun hm=>by
  rcases hb with rfl|hb
  ·rw[hf _ hm]at e;cases e
  ·rw[hf _ hm]at hb;cases hb) (fun b q=>q) fun b xs q=>q
section
variable{P:Program}{w:World}{K:PySem.W.Frag}{mg:Str→Option Value}{base:Heap}{N:List Str}{qual:Str}{scope:Scope}{f:Addr}{cd:Value}{A:Around}{outer:List Env}{s:Shared}{H:Hp}{E:XK}{cm:Bool}
theorem ZN{P:Program}{w:World}{H:Hp}{h:Heap}{a:Addr}{o:HO}(x:cF P w H h a o):∃q,h.get? a=some q:=by
 cases o with
 |lst xs=>obtain⟨_,its,n,_,e⟩:=x;exact⟨_,e⟩
 |tup xs=>obtain⟨_,its,_,o,e,_⟩:=x;exact⟨_,e⟩
 |dK kvs=>obtain⟨_,_,vs,_,o,es,ep,e,_⟩:=x;exact⟨_,e⟩
 |dT kvs=>obtain⟨_,_,xs,_,o,es,ep,e,_⟩:=x;exact⟨_,e⟩
 |set S n=>obtain⟨o,es,ep,t,e,_⟩:=x;exact⟨_,e⟩
 |ins C dx fs=>obtain⟨_,_,_,e,_⟩:=x;exact⟨_,e⟩
 |own y=>exact x
 |xd fs=>obtain⟨mA,⟨o,es,ep,e,_⟩,_⟩:=x;exact⟨_,e⟩
 |met f y=>exact⟨_,x⟩
 |My lo hi=>obtain⟨t,u,v,e⟩:=x;exact⟨_,e⟩
 |qo o u=>exact⟨_,x.1⟩
 |DZ ps=>exact⟨_,x⟩
 |ext φ=>exact x.2.1
theorem Yj:MO (XY (c8 P w) cm P w K mg base N qual scope f cd A outer s H E) (fun _=>E):=by
 refine⟨?_,?_,PassesOwn.leaving⟩
 ·intro pins σ H1 s1 h' e cls args I hx hE;have OL:(A.deeper (envOfC qual scope s.heap.objs.size f cd)).frames=some (envOfC qual scope s.heap.objs.size f cd::outer):=I.ok.frames;have tm:s1.heap.FunFrames base (envOfC qual scope s.heap.objs.size f cd::outer):=I.stack;have m4:∀env∈(envOfC qual scope s.heap.objs.size f cd::outer),∀b,env.frame=some b→b∈(envOfC qual scope s.heap.objs.size f cd::outer).filterMap (·.frame):=fun env he b hb=>List.mem_filterMap.mpr ⟨env,he,hb⟩
  have Y1:∀b∈(envOfC qual scope s.heap.objs.size f cd::outer).filterMap (·.frame),H1 b=none:=I.t8;show wpAny (model P w) (A.deeper (envOfC qual scope s.heap.objs.size f cd)) (leaving (envOfC qual scope s.heap.objs.size f cd) (.ref e)) (fun _ uc=>c8 P w outer H s E (.ref e) uc) (fun e' uc=>c8 P w outer H s E e' uc) {s1 with heap:=h'};have Y0:∀b o,s.heap.get? b=some o→b∉mQ outer→b∉(envOfC qual scope s.heap.objs.size f cd::outer).filterMap (·.frame):=fun b o q hb hm=>by
   obtain⟨env,he,hf⟩:=List.mem_filterMap.mp hm;rcases List.mem_cons.mp he with rfl|he
   ·have z:s.heap.objs.size=b:=Option.some.inj hf;exact absurd (Heap.lt_size q) (by rw[z];exact Nat.lt_irrefl _)
   ·exact hb (List.mem_filterMap.mpr ⟨env,he,hf⟩)
  refine wpAny_leaves_madeW (s:={s1 with heap:=h'}) (h:=s1.heap) (base:=hideAll s1.heap ((envOfC qual scope s.heap.objs.size f cd::outer).filterMap (·.frame))) (L:=s.heap.objs.size) OL rfl (fun b o q=>of_hideAll _ q) (funFrames_hide tm m4) hx fun h2 t x1 x2 x3 x4=>?_
  have bs:Un (mQ outer) [] H H1 s.heap s1.heap:=I.base;have kB:∀b o,s.heap.get? b=some o→H b=none→b∉mQ outer→(hideAll s1.heap ((envOfC qual scope s.heap.objs.size f cd::outer).filterMap (·.frame))).get? b=some o:=fun b o q hn hb=>
   hideAll_get _ (bs.keep b o q hn hb Xr) (Y0 b o q hb)
  have hB:kb P w H1 (hideAll s1.heap ((envOfC qual scope s.heap.objs.size f cd::outer).filterMap (·.frame))):=I.bL.hide Y1;refine⟨e,cls, .ref t,_,H1,rfl,I.os,I.bare,x1,?_,hB,kB,fun b o q hb=>?_,hE⟩
  rotate_left
  ·obtain⟨o',e1⟩:=bs.there b o q Xr;exact⟨o',hideAll_get _ e1 (Y0 b o q hb)⟩
  refine⟨fun b o q hn hb _=>x1.1 b o (kB b o q hn hb),fun b o q hn hb _=>?_,fun b o q hn _=>bs.free b o q hn Xr,fun b o q _=>?_,bs.cw,bs.mT,bs.p4⟩
  ·obtain⟨sl,e1⟩:=bs.slot b o q hn hb Xr;have FT:s1.heap.FunFrames base outer:=tm.2.2;obtain⟨_,o2,e2,Et⟩:=FT.mem hb;rw[e1]at e2;cases e2;obtain⟨XB,e3⟩:=x4 b _ (hx.keeps _ _ e1) Et;exact⟨XB,e3⟩
  ·cases q1:H1 b with
   |some u=>
    obtain⟨oo,z⟩:=ZN (hB b u q1);exact⟨oo,x1.1 b oo z⟩
   |none=>
    cases q0:H b with
    |none=>
     by_cases hb:b∈mQ outer
     ·obtain⟨sl,e1⟩:=bs.slot b o q q0 hb Xr;have FT:s1.heap.FunFrames base outer:=tm.2.2;obtain⟨_,o2,e2,Et⟩:=FT.mem hb;rw[e1]at e2;cases e2;obtain⟨XB,e3⟩:=x4 b _ (hx.keeps _ _ e1) Et;exact⟨_,e3⟩
     ·exact⟨o,x1.1 b o (kB b o q q0 hb)⟩
    |some u=>
     obtain⟨o',e1⟩:=bs.there b o q Xr;by_cases hb:b∈mQ outer
     ·have FT:s1.heap.FunFrames base outer:=tm.2.2;obtain⟨_,o2,e2,Et⟩:=FT.mem hb;obtain⟨XB,e3⟩:=x4 b _ (hx.keeps _ _ e2) Et;exact⟨_,e3⟩
     ·exact⟨o',x1.1 b o' (hideAll_get _ e1 (Y0 b o q hb))⟩
 ·rintro pins σ H1 s1 e s2 I ⟨ea,cls,a0,B,H',rfl,os,bare,MP,un,hB,kB,tB,hE⟩;have OL:(A.deeper (envOfC qual scope s.heap.objs.size f cd)).frames=some (envOfC qual scope s.heap.objs.size f cd::outer):=I.ok.frames;show wpAny (model P w) (A.deeper (envOfC qual scope s.heap.objs.size f cd)) (leaving (envOfC qual scope s.heap.objs.size f cd) (.ref ea)) (fun _ uc=>c8 P w outer H s E (.ref ea) uc) (fun e' uc=>c8 P w outer H s E e' uc) s2;have MP:Heap.FlyingW B (envOfC qual scope s.heap.objs.size f cd::outer) ea cls a0 s2.heap:=MP;have un:Un (mQ (envOfC qual scope s.heap.objs.size f cd::outer)) [] H1 H' s1.heap s2.heap:=un;have kB:∀b o,s1.heap.get? b=some o→H1 b=none→b∉mQ (envOfC qual scope s.heap.objs.size f cd::outer)→B.get? b=some o:=kB;have Y0:∀b o,s.heap.get? b=some o→b∉mQ outer→b∉mQ (envOfC qual scope s.heap.objs.size f cd::outer):=fun b o q hb hm=>by
   obtain⟨env,he,hf⟩:=List.mem_filterMap.mp hm;rcases List.mem_cons.mp he with rfl|he
   ·have z:s.heap.objs.size=b:=Option.some.inj hf;exact absurd (Heap.lt_size q) (by rw[z];exact Nat.lt_irrefl _)
   ·exact hb (List.mem_filterMap.mpr ⟨env,he,hf⟩)
  have OM:∀b,b∈mQ outer→b∈mQ (envOfC qual scope s.heap.objs.size f cd::outer):=fun b hb=>by
   obtain⟨env,he,hf⟩:=List.mem_filterMap.mp hb;exact List.mem_filterMap.mpr ⟨env,List.mem_cons_of_mem _ he,hf⟩
  have bs:Un (mQ outer) [] H H1 s.heap s1.heap:=I.base;refine wpAny_leaves_onW (L:=s.heap.objs.size) OL rfl MP fun h2 x1 x4=>?_
  have Ra:∀b o,s.heap.get? b=some o→H b=none→b∉mQ outer→B.get? b=some o:=fun b o q hn hb=>kB b o (bs.keep b o q hn hb Xr) (bs.free b o q hn Xr) (Y0 b o q hb)
  have FT:s2.heap.FunFrames B outer:=MP.2.2.1.2.2;refine⟨ea,cls,a0,B,H',rfl,os.trans I.os,bare,x1,?_,hB,Ra,fun b o q hb=>?_,hE⟩
  rotate_left
  ·obtain⟨o',e1⟩:=bs.there b o q Xr;exact tB b o' e1 (Y0 b o q hb)
  refine⟨fun b o q hn hb _=>x1.1 b o (Ra b o q hn hb),fun b o q hn hb _=>?_,fun b o q hn _=>?_,fun b o q _=>?_,fun b xs q=>un.cw b xs (bs.cw b xs q),fun b o u q=>un.mT b o u (bs.mT b o u q),fun b ps q=>?_⟩
  ·obtain⟨sl,e1⟩:=bs.slot b o q hn hb Xr;obtain⟨Wo,e2⟩:=un.slot b _ e1 (bs.free b o q hn Xr) (OM b hb) (XA);obtain⟨_,o2,e3,Et⟩:=FT.mem hb;rw[e2]at e3;cases e3;obtain⟨XB,e4⟩:=x4 b _ e2 Et;exact⟨XB,e4⟩
  ·by_cases hb:b∈mQ outer
   ·obtain⟨sl,e1⟩:=bs.slot b o q hn hb Xr;exact un.free b _ e1 (bs.free b o q hn Xr) (XA)
   ·exact un.free b o (bs.keep b o q hn hb Xr) (bs.free b o q hn Xr) (XA)
  ·obtain⟨o',e1⟩:=bs.there b o q Xr;obtain⟨o2,e2⟩:=un.there b o' e1 Xr;by_cases hb:b∈mQ outer
   ·obtain⟨_,o3,e3,Et⟩:=FT.mem hb;obtain⟨XB,e4⟩:=x4 b _ e3 Et;exact⟨_,e4⟩
   ·obtain⟨o3,e3⟩:=tB b o' e1 (Y0 b o q hb);exact⟨o3,x1.1 b o3 e3⟩
  ·obtain⟨more,z⟩:=bs.p4 b ps q;obtain⟨K6,z2⟩:=un.p4 b _ z;exact⟨more++K6,by rw[z2,Array.append_assoc]⟩
end
end L2
namespace L2
open PySem PySem.Spec PyProof.Rows PySem.W PySem.Calls Builtin Builtin.ObjectAttr Builtin.Getset_descriptor
section
variable{prog:Program}{w:World}{A:Around}{E:Value→Shared→Prop}{K:Frag}{x C:Addr}{o:Obj}{hh:Heap}{g:Array GenState}{d:Drawn}{t:Nat}{os:OsState}
end
structure K7(K:Frag)(C:Addr):Prop where
 ex:excIn K C [.type "ValueError", .type "Exception", .type "BaseException", .type "object"] "ValueError.__new__"=true
 cl:findIn K (.ref C) "__class__"=some (some (.builtin "object.__class__"))
 ob:mroIn K C (.type "object")=some true
 be:mroIn K C (.type "BaseException")=some true
 ga:findIn K (.ref C) "__getattribute__"=some (some (.builtin "BaseException.__getattribute__"))
 gn:findIn K (.ref C) "__getattr__"=some none
 tu:instIn K (.ref C) (.type "tuple")=some false
 kp:keepIn K (.ref C)=true
end L2
namespace L2
open PySem PySem.Spec PyProof.Rows PySem.W PySem.Calls
theorem Eu{K:Frag}{h:Heap}{C:Addr}{Rb:List Value}{newId:String}(X:K.In h)(q:excIn K C Rb newId=true):
  ∃bm N nm qn bs hdct sn sub ab col dd k0 k1 k2 k3 k5 mN,h.get? C=some (excClassObj nm qn C N bs bm hdct sn sub ab col dd k0 k1 k2 k3 k5 newId)∧h.Ns N mN∧mN "__init__"=none∧OwnTail h Rb bm:=by
 unfold excIn at q;split at q
 ·rename_i dd cd sl ho
  split at q
  ·rename_i C' bm k0 k1 k2 k3 n k5 hm hs
   simp only[Bool.and_eq_true,beq_iff_eq,Bool.not_eq_true']at q;obtain⟨⟨⟨⟨⟨rfl,rfl⟩,K8⟩,ht⟩,bL⟩,MQ⟩:=q;obtain⟨nm,bs,mro,ns,qn,hd,sn,sub,ab,col,del⟩:=cd;dsimp only at hm K8 bL MQ;subst hm K8;have ON:sl=#[k0,k1,k2,k3,some (.builtin n),k5]:=by
    obtain⟨l⟩:=sl;simp only at hs;rw[hs]
   subst ON;exact⟨bm,ns,nm,qn,bs,hd,sn,sub,ab,col,dd,k0,k1,k2,k3,k5,_,X _ _ ho, .of_isNs (isNs_of_in X bL),nsMap_none_of_in X bL MQ,tail_of_in X ht⟩
  ·cases q
 ·cases q
section
variable{X:Cx}{x:Str}{np dO pos:Pos}{e:Expr}{es:List Expr}{t:TA}{C:Addr}{E:St→XK}
def HM(C:Addr)(E:St→XK)(t:TA):TS:=fun _ σ H=>t σ H fun vs H1=>vs.length≤sizeLine∧E σ (.ref C) none H1
theorem ij(hX:MO X E)(hc:X.calm=true)(hg:Gl X x)(hm:X.mg x=some (.ref C))(c:K7 X.K C)(ha:PA X (e::es) t)(ub:(x==("__debug__":Str))=false:=by decide)
  (he:starEach (e::es) X.env=(false,eval e X.env)::starEach es X.env:=by rfl) (pN:(backTo dO (starEach es X.env)).any (·.1)=false:=by rfl):
  PS X (.Raise (some (.Call (.Name x np) (e::es) [] dO)) none pos) (HM C E t):=by
 intro pins s σ H D I h;obtain⟨bm,N,nm,qn,bs,hdct,sn,sub,ab,col,dd,k0,k1,k2,k3,k5,mN,hC,hN,MQ,T⟩:=Eu I.ok.mod.JD c.ex;refine wpAny_Raise_call_subT (C:=C) (nm:=nm) (q:=qn) (N:=N) (bs:=bs) (bm:=bm) (hdct:=hdct) (sn:=sn) (sub:=sub) (ab:=ab) (col:=col) (dd:=dd) (k0:=k0) (k1:=k1) (k2:=k2) (k3:=k3) (k5:=k5)
  F.excBase_ValueError (mN:=mN) (T.hasType F.excBase_ValueError.hasBase) (I.ok.hd hc) (by rw[he];show(false||(backTo dO (starEach es X.env)).any (·.1))=false;rw[pN];rfl) MQ (mU I hg hm ⟨rfl,?_⟩ ub)
 have hq:=cj (ha dO pins s σ H _ I h) fun us s2 ⟨vs,H2,I2,r2,q2⟩=>show us.length≤sizeLine∧(∀b o,X.base.get? b=some o→s2.heap.get? b=some o)∧∀h' e,Heap.MadeExcOf s2.heap h' e (.ref C) us→X.xe (.ref e) {s2 with heap:=h'}from
  ⟨by rw[←r2.length];exact q2.1,I2.bk,fun h' e hx=>hX.raise pins σ H2 s2 h' e (.ref C) us I2 hx q2.2⟩
 rw[he]at hq⊢;exact evalArgs_plain (wpAny_mono hq (fun vs s2 h2=>⟨rfl,h2.1,h2.2.1 _ _ hC,hN.keeps h2.2.1,T.keeps h2.2.1,h2.2.2⟩) fun _ _ y=>y)
end
section
variable{X:Cx}{e v1 v2:Expr}{es:List Expr}{te:TE}{pos:Pos}
def OO(te:TE):TE:=fun σ H Q=>te σ H fun x H1=>(∃y,x= .str y∧y.length≤sizeLine∧Q (.str y) H1)∨∃i:Int,x= .int i∧i.natAbs.log2<1920∧Q (.str (toString i)) H1
theorem oK(h:PE X e te):PE X (.FormattedValue e (-1) none pos) (OO te):=by
 intro pins s σ H Q I hq;refine FormattedValue_plain (cj (h pins s σ H _ I hq) fun u s1 ⟨x,H1,I1,r1,q1⟩=>?_);rcases q1 with⟨y,rfl,hy,q⟩|⟨i,rfl,hi,q⟩
 ·obtain⟨t,rfl⟩:=r1;exact formatField_str (fun t' tk=>⟨.str y,H1,I1.tok _,⟨_,rfl⟩,q⟩) hy
 ·obtain⟨t,rfl⟩:=r1;exact formatField_int_small hi ⟨.str (toString i),H1,I1.tok _,⟨_,rfl⟩,q⟩
abbrev TJ:=Str→TE
def PJ(X:Cx)(es:List Expr)(t:TJ):Prop:=
 ∀(acc:Str)(pins:List (Addr×Obj))(s:Shared)(σ:St)(H:Hp)(Q:VK),Inv X pins σ H s→t acc σ H Q→wpAny (model X.prog X.w) X.A (joinParts acc (evalEach es X.env)) (EP X pins σ Q) X.xe s
def K9:TJ:=fun acc _ H Q=>acc.length≤sizeLine∧Q (.str acc) H
def HN(te:TE)(t:TJ):TJ:=fun acc σ H Q=>te σ H fun x H1=>∃y,x= .str y∧(acc++y).length≤sizeLine∧t (acc++y) σ H1 Q
theorem uo:PJ X [] K9:=fun acc _ s σ H Q I h=>joinParts_nil ⟨.str acc,H,I.tok _,⟨_,rfl⟩,h.2⟩ h.1
theorem eL{t:TJ}(h1:PE X e te)(h2:PJ X es t):PJ X (e::es) (HN te t):=by
 intro acc pins s σ H Q I h;refine joinParts_cons (cj (h1 pins s σ H _ I h) fun u s1 ⟨x,H1,I1,r1,y,e,hl,q⟩=>?_);subst e;obtain⟨tk,rfl⟩:=r1;exact⟨hl,h2 _ pins s1 σ H1 Q I1 q⟩
theorem lg{t:TJ}(h:PJ X (v1::v2::es) t):PE X (.JoinedStr (v1::v2::es) pos) (t Str.empty):=fun pins s σ H Q I hq=>JoinedStr_many (h Str.empty pins s σ H Q I hq)
end
abbrev Cx.K_(X:Cx)(e:Addr):Cx:={X with A:=X.A.mark (some (.ref e)),calm:=false,xe:=fun _ _=>False}
section
variable{X:Cx}{pins:List (Addr×Obj)}{σ:St}{H:Hp}{s:Shared}{ea C:Addr}{B:Heap}{a0:Value}
end
abbrev TH:=Addr→TS
def Ends.drop(D:Ends)(i:Nat):Ends:={nx:=fun σ H=>D.nx (σ.set i none) H,rt:=D.rt,bk:=fun σ H=>D.bk (σ.set i none) H,ct:=fun σ H=>D.ct (σ.set i none) H}
section
variable{X:Cx}{x n:Str}{np pos:Pos}{b0:Stmt}{K_:List Stmt}{rest:List ExceptHandler}{ts:TS}{tr:TH}{Dc:Addr}{i:Nat}
end
def e6(env:Env):List (Str×NameKind)→List (Str×Addr)→List (Str×Addr)
 |[],acc=>acc
 |(n,k)::r,acc=>if k= .free then e6 env r ((n,(env.cells.lookup n).getD 0)::acc)else e6 env r acc
theorem uq{env:Env}{scope:Scope}(h:∀x∈scope.names,x.2= .free→∃c,env.cells.lookup x.1=some c):closureFor scope env=pure (e6 env scope.names []):=by
 unfold closureFor
 suffices H:∀(l:List (Str×NameKind))(acc:List (Str×Addr)),(∀x∈l,x.2= .free→∃c,env.cells.lookup x.1=some c)→
   (forIn l acc fun(x:Str×NameKind)(cs:List (Str×Addr))=>if (x.2==NameKind.free)=true then do let c←cellOf env x.1;pure (ForInStep.yield ((x.1,c)::cs))else pure (ForInStep.yield cs):Sem (List (Str×Addr)))=pure (e6 env l acc) by
  have:=H scope.names [] h;simpa using this
 intro l
 induction l with
 |nil=>intro acc _;rfl
 |cons x r ih=>
  intro acc hl;obtain⟨n,k⟩:=x;rw[List.forIn_cons];by_cases hk:k= .free
  ·subst hk;obtain⟨c,hc⟩:=hl (n, .free) List.mem_cons_self rfl;have Hb:env.cells.lookup n=some c:=hc;simp only[beq_self_eq_true,if_true,cellOf,Hb,e6,Option.getD_some];show(pure _>>=_)=_;rw[pure_bind];exact ih _ fun y hy=>hl y (List.mem_cons_of_mem _ hy)
  ·have hb:(k==NameKind.free)=false:=by simpa using hk
   simp only[hb,Bool.false_eq_true,if_false,e6,hk];rw[pure_bind];exact ih _ fun y hy=>hl y (List.mem_cons_of_mem _ hy)
theorem ji{env:Env}{x:Str}{c:Addr}:∀{l:List (Str×NameKind)}{acc:List (Str×Addr)},(∀y∈l,y.2= .free→∃c,env.cells.lookup y.1=some c)→
  (∀y d,acc.lookup y=some d→env.cells.lookup y=some d)→(e6 env l acc).lookup x=some c→env.cells.lookup x=some c
 |[],acc,_,ha,h=>ha x c h
 |(n,k)::r,acc,hl,ha,h=>by
  unfold e6 at h;have hr:∀y∈r,y.2= .free→∃c,env.cells.lookup y.1=some c:=fun y hy=>hl y (List.mem_cons_of_mem _ hy)
  split at h
  ·rename_i hk
   obtain⟨d,hd⟩:=hl (n,k) List.mem_cons_self hk;refine ji hr (fun y e he=>?_) h;rw[List.lookup_cons]at he;split at he
   ·rename_i q
    have q':y=n:=by simpa using q
    subst q';have JE:env.cells.lookup y=some d:=hd;rw[JE,Option.getD_some]at he;cases he;exact JE
   ·exact ha y e he
  ·exact ji hr ha h
theorem m6{env:Env}{x:Str}:∀{l:List (Str×NameKind)}{acc:List (Str×Addr)},((x,NameKind.free)∈l∨∃c,acc.lookup x=some c)→∃c,(e6 env l acc).lookup x=some c
 |[],acc,h=>by
  rcases h with h|h
  ·simp at h
  ·exact h
 |(n,k)::r,acc,h=>by
  unfold e6;split
  ·rename_i hk
   refine m6 ?_;rcases h with h|⟨c,h⟩
   ·rcases List.mem_cons.mp h with e|e
    ·injection e with e1 e2;subst e1;exact .inr ⟨(env.cells.lookup x).getD 0,by simp[List.lookup_cons]⟩
    ·exact .inl e
   ·by_cases q:x=n
    ·subst q;exact .inr ⟨(env.cells.lookup x).getD 0,by simp[List.lookup_cons]⟩
    ·refine .inr ⟨c,?_⟩;rw[List.lookup_cons];have:(x==n)=false:=by simpa using q
     rw[this];exact h
  ·rename_i hk
   refine m6 ?_;rcases h with h|h
   ·rcases List.mem_cons.mp h with e|e
    ·injection e with e1 e2;exact absurd e2.symm hk
    ·exact .inl e
   ·exact .inr h
theorem m7{env:Env}{x:Str}:∀{names:List (Str×NameKind)},names.lookup x=some .free→
  (names.map fun(n,k)=>if (k==NameKind.free&&env.scope.kind== .function&&env.kindOf n==some .cell)then(n,NameKind.cell)else(n,k)).lookup x=some .cell∨
  (names.map fun(n,k)=>if (k==NameKind.free&&env.scope.kind== .function&&env.kindOf n==some .cell)then(n,NameKind.cell)else(n,k)).lookup x=some .free
 |[],h=>by simp at h
 |(n,k)::r,h=>by
  have ih:=@m7 env x r;show List.lookup x ((if (k==NameKind.free&&env.scope.kind== .function&&env.kindOf n==some .cell)=true then(n,NameKind.cell)else(n,k))::_)=_∨List.lookup x ((if (k==NameKind.free&&env.scope.kind== .function&&env.kindOf n==some .cell)=true then(n,NameKind.cell)else(n,k))::_)=_;rw[List.lookup_cons]at h;by_cases hc:(k==NameKind.free&&env.scope.kind== .function&&env.kindOf n==some .cell)=true
  ·rw[Xo hc,List.lookup_cons];cases hx:x==n with
   |true=>exact .inl rfl
   |false=>rw[hx]at h;exact ih h
  ·rw[Xk hc,List.lookup_cons];cases hx:x==n with
   |true=>rw[hx]at h;exact .inr h
   |false=>rw[hx]at h;exact ih h
theorem m8{env:Env}{x:Str}:∀{names:List (Str×NameKind)},(∀y∈names,y.2≠ .cell)→
  ((names.map fun(n,k)=>if (k==NameKind.free&&env.scope.kind== .function&&env.kindOf n==some .cell)then(n,NameKind.cell)else(n,k)).lookup x=some .cell∨
  (names.map fun(n,k)=>if (k==NameKind.free&&env.scope.kind== .function&&env.kindOf n==some .cell)then(n,NameKind.cell)else(n,k)).lookup x=some .free)→(x,NameKind.free)∈names
 |[],_,h=>by simp at h
 |(n,k)::r,hc,h=>by
  have ih:=@m8 env x r fun y hy=>hc y (List.mem_cons_of_mem _ hy)
  have h2:List.lookup x ((if (k==NameKind.free&&env.scope.kind== .function&&env.kindOf n==some .cell)=true then(n,NameKind.cell)else(n,k))::_)=_∨List.lookup x ((if (k==NameKind.free&&env.scope.kind== .function&&env.kindOf n==some .cell)=true then(n,NameKind.cell)else(n,k))::_)=_:=h;clear h;by_cases hq:(k==NameKind.free&&env.scope.kind== .function&&env.kindOf n==some .cell)=true
  ·rw[Xo hq,List.lookup_cons]at h2;cases hx:x==n with
   |true=>
    have e:x=n:=by simpa using hx
    subst e;have hk:k= .free:=by
     rw[Bool.and_eq_true,Bool.and_eq_true]at hq;simpa using hq.1.1
    subst hk;exact List.mem_cons_self
   |false=>rw[hx]at h2;exact List.mem_cons_of_mem _ (ih h2)
  ·rw[Xk hq,List.lookup_cons]at h2;cases hx:x==n with
   |true=>
    rw[hx]at h2;have e:x=n:=by simpa using hx
    subst e;rcases h2 with h|h
    ·have h':some k=some NameKind.cell:=h;exact absurd (Option.some.inj h') (hc (x,k) List.mem_cons_self)
    ·have h':some k=some NameKind.free:=h;rw[Option.some.inj h'];exact List.mem_cons_self
   |false=>rw[hx]at h2;exact List.mem_cons_of_mem _ (ih h2)
def fz(X:Cx)(scope:Scope)(N:List Str)(cU:Shared)(d8:Hp)(C:Addr)(fp:List Addr)(pn:List (Addr×Obj)):Cx:=
 {X with N:=N,cU:=cU,d8:=d8,env:=compEnvC scope (e6 X.env scope.names []) C X.env,outer:=X.stack,ex:=fp,fn:=fun _=>false,pn:=pn,xe:=fun _ _=>False}
structure ba(N:List Str)(sc:Scope)(scope:Scope)(ls:List Str)(js:List Nat)(cs:List Str):Prop where
 kind:scope.kind= .function
 FU:∀x∈scope.names,x.2≠ .cell
 names:∀x∈scope.names,x.2= .local→scope.names.lookup x.1=some .local
 loc:∀x∈ls,scope.names.lookup x=some .local
 at_:cs=js.filterMap (N[·]?)
 len:cs.length=js.length
 OP:∀x∈cs,scope.names.lookup x=some .free∧(sc.names.lookup x=some .cell∨sc.names.lookup x=some .free)
 free:∀x∈scope.names,x.2= .free→(sc.names.lookup x.1=some .cell∨sc.names.lookup x.1=some .free)
 nd:(ls++cs).Nodup
section
variable{X:Cx}{pins:List (Addr×Obj)}{σ:St}{H:Hp}{s:Shared}{scope:Scope}{ls cs:List Str}{js:List Nat}{fp:List Addr}
theorem ba.has(S:ba X.N X.env.scope scope ls js cs)(ok:X.Ok):∀x∈scope.names,x.2= .free→∃c,X.env.cells.lookup x.1=some c:=fun x hx hf=>ok.has x.1 (S.free x hx hf)
def kq(ls:List Str)(js:List Nat)(σ:St):St:=ls.map (fun _=>none)++js.map fun j=>(σ[j]?).join
theorem Ew(S:ba X.N X.env.scope scope ls js cs)(I:Inv X pins σ H s)(hf:∀b∈fp,gK X pins H b)(hl:∀b∈fp,b<s.heap.objs.size):(fz X scope (ls++cs) s H s.heap.objs.size fp (X.pn++pins)).Ok:=by
 have qK:∀{x:Str}{c:Addr},(e6 X.env scope.names []).lookup x=some c→X.env.cells.lookup x=some c:=fun{x c} h=>ji (S.has I.ok) (fun y d h=>by simp at h) h
 refine⟨I.ok.mod,S.kind,I.ok.glob,I.ok.blt,Nat.le_refl _,fun x y c h1 h2=>I.ok.inj x y c (qK h1) (qK h2),fun x h=>m6 (.inl (m8 S.FU h)),(fun x c h=>Bool.noConfusion (show false=true from h)),I.ok.hd,I.ok.frames, .inl rfl,fun b hb=>⟨Nat.ne_of_lt (hl b hb),fun x c h=>(hf b hb).2.2.2.2.1 x c (qK h)⟩,
  I.bs,Nat.le_trans I.ok.G8 I.sz,fun b o e hb=>?_,fun b hb hm=>?_,I.stack,I.t8⟩
 ·rcases(hf b hb).2.2.2.1 with z|z
  ·exact I.ok.G9 b o e z
  ·exact absurd (Nat.lt_of_lt_of_le (Heap.lt_size e) I.ok.G8) (Nat.not_lt.mpr z)
 ·rcases List.mem_cons.mp (I.qB b hm)with z|z
  ·exact(hf b hb).2.1 z
  ·exact(hf b hb).2.2.1 z
theorem B9{h1:Heap}{m:Str→Option Value}(S:ba X.N X.env.scope scope ls js cs)(I:Inv X pins σ H s)(hf:∀b∈fp,gK X pins H b)(hl:∀b∈fp,b<s.heap.objs.size)
  (hn:h1.Ns s.heap.objs.size m) (hk:∀b o,s.heap.get? b=some o→h1.get? b=some o):
  Inv (fz X scope (ls++cs) s H s.heap.objs.size fp (X.pn++pins)) [] (kq ls js σ) H {s with heap:=h1}:=by
 have qK:∀{x:Str}{c:Addr},(e6 X.env scope.names []).lookup x=some c→X.env.cells.lookup x=some c:=fun{x c} h=>ji (S.has I.ok) (fun y d h=>by simp at h) h
 have len:(kq ls js σ).length=(ls++cs).length:=by
  unfold kq;rw[List.length_append,List.length_append,List.length_map,List.length_map,S.len]
 refine⟨Ew S I hf hl,rfl,I.bare,Un.kept hk,⟨m,hn,fun i x v e1 e2 e3=>?_⟩,fun x c e=>?_,I.bL.fresh (Nat.le_refl _),fun x c e=>I.lR x c (qK e),fun p hp=>?_,I.bL.kept hk,len⟩
 ·have e1:(ls++cs)[i]?=some x:=e1;unfold kq at e2;by_cases hi:i<ls.length
  ·rw[List.getElem?_append_left (by simpa using hi),List.getElem?_map]at e2;cases q:ls[i]? with
   |none=>rw[q]at e2;cases e2
   |some y=>rw[q]at e2;cases e2
  ·have XD:ls.length≤i:=Nat.not_lt.mp hi;rw[List.getElem?_append_right (by simpa using XD),List.getElem?_map,List.length_map]at e2;rw[List.getElem?_append_right XD]at e1;obtain⟨Rg,ur⟩:=S.OP x (Xi e1);cases q:js[i-ls.length]? with
   |none=>rw[q]at e2;cases e2
   |some j=>
    rw[q]at e2;have e2:(σ[j]?).join=some v:=Option.some.inj e2;have eN:X.N[j]?=some x:=by
     have aux:∀(js:List Nat)(cs:List Str)(i:Nat),cs=js.filterMap (X.N[·]?)→cs.length=js.length→∀j x,js[i]?=some j→cs[i]?=some x→X.N[j]?=some x:=by
      intro js
      induction js with
      |nil=>intro cs i _ _ j x hj _;simp at hj
      |cons a r ih=>
       intro cs i he hl j x hj hx;rw[List.filterMap_cons]at he;cases qa:X.N[a]? with
       |none=>
        rw[qa]at he;have hle:=List.length_filterMap_le (X.N[·]?) r;simp only at he;rw[he,List.length_cons]at hl;omega
       |some y=>
        rw[qa]at he;simp only at he;subst he;cases i with
        |zero=>
         simp at hj hx;subst hj hx;exact qa
        |succ i=>exact ih _ i rfl (by simpa using hl) j x (by simpa using hj) (by simpa using hx)
     exact aux js cs _ S.at_ S.len j x q e1
    obtain⟨mX,_,TU⟩:=I.loc;have TX:σ[j]?=some (some v):=by
     cases z:σ[j]? with
     |none=>rw[z]at e2;cases e2
     |some w=>rw[z]at e2;rw[show w=some v from e2]
    obtain⟨u,r,l⟩:=TU j x v eN TX (ur.elim (fun z=> .inr (.inl z)) fun z=> .inr (.inr z));refine⟨u,r,?_⟩;rcases l with⟨z,_⟩|⟨_,c,z1,o,z2,z3⟩
    ·have z:X.env.scope.names.lookup x=some .local:=z;rcases ur with w|w<;>(rw[z]at w;cases w)
    ·refine .inr ⟨m7 Rg,c,?_,o,hk c o z2,z3⟩;obtain⟨c',Hb⟩:=m6 (env:=X.env) (l:=scope.names) (acc:=[]) (x:=x) (.inl (PySem.mem_of_lookup Rg));have:=qK Hb;rw[z1]at this;cases this;exact Hb
 ·obtain⟨v,o,z1,z2⟩:=I.cell x c (qK e);exact⟨v,o,hk c o z1,z2⟩
 ·have hp:p∈X.pn++pins:=by simpa[fz]using hp
  obtain⟨e,n,ne,nf,d⟩:=I.pin p hp;refine⟨hk _ _ e,n,Nat.ne_of_lt (Heap.lt_size e),fun hm=>?_,d⟩;rcases List.mem_cons.mp (I.qB p.1 hm)with z|z
  ·exact ne z
  ·exact nf z
end
section
variable{prog:Program}{w:World}{A:Around}{R:Result→Shared→Prop}{s:Shared}
theorem uv{elt target iter:Expr}{ifs:List Expr}{scope:Scope}{pos:Pos}{it acc:Value}{env:Env}(L:Nat→Shared→Prop)
  (turn:∀n s,L n s→wpAny (model prog w) A (pyNext it) (fun r bT=>match r with
   |none=>R (.ok .next) bT
   |some v=>wpAny (model prog w) A (letOwnedTupleGo target it v) (fun _ FV=>wpAny (model prog w) A (assign target env v) (fun _ oE=>
     wpAny (model prog w) A (forIn ifs true fun c r=>if r=true then do let ok←isTrue c env (eval c env);pure (ForInStep.yield ok)else pure (ForInStep.yield r)) (fun ok An=>
      if ok=true then wpAny (model prog w) A (eval elt env) (fun x K'=>
       wpAny (model prog w) A (call (.builtin "list.append") [acc,x]) (fun _ Lb=>∃m,m<n∧L m Lb) (fun _ _=>False) K') (fun _ _=>False) An
      else ∃m,m<n∧L m An) (fun _ _=>False) oE) (fun _ _=>False) FV) (fun _ _=>False) bT) (fun _ _=>False) s)
  (n:Nat) (h:L n s):codeAny (model prog w) A (.compLoop (.ListComp elt [⟨target,iter,ifs,0⟩] scope pos) 0 it acc env) R s:=by
 refine codeAny_loop rfl L (fun n s hI=>?_) n h;show wpAny _ A ((compTurn (.ListComp elt [⟨target,iter,ifs,0⟩] scope pos) 0 it acc env).onRaise (fun x=>do noteFrame x env;theTreesLotGoes x)) _ _ s;refine wpAny_noted ?_;rw[compTurn_list];refine wpAny_mono (E:=fun _ _=>False) ?_ (fun _ _ q=>q) fun _ _ z=>False.elim z
 refine wpAny_bind (wpAny_standAt (wpAny_bind (wpAny_mono (turn n s hI) (fun r bT Am=>?_) fun _ _ h'=>h')));cases r with
 |none=>exact wpAny_pure Am
 |some v=>
  refine wpAny_bind (wpAny_mono Am (fun _ FV Am=>?_) fun _ _ h'=>h');refine wpAny_bind (wpAny_mono Am (fun _ oE BR=>wpAny_bind (wpAny_mono BR (fun ok An Ei=>?_) fun _ _ h'=>h')) fun _ _ h'=>h');cases ok with
  |false=>exact wpAny_pure ⟨rfl,Ei⟩
  |true=>
   exact wpAny_bind (wpAny_bind (wpAny_mono Ei (fun x K' OQ=>wpAny_bind (wpAny_mono OQ (fun _ Lb OR=>wpAny_pure (wpAny_pure ⟨rfl,OR⟩)) fun _ _ h'=>h')) fun _ _ h'=>h'))
end
def Lc(X:Cx)(ifs:List Expr)(t:TT):Prop:=
 ∀(pins:List (Addr×Obj))(s:Shared)(σ:St)(H:Hp)(Q:Bool→Hp→Prop),Inv X pins σ H s→t σ H Q→
  wpAny (model X.prog X.w) X.A (forIn ifs true fun c r=>if r=true then do let ok←isTrue c X.env (eval c X.env);pure (ForInStep.yield ok)else pure (ForInStep.yield r)) (TP X pins σ Q) X.xe s
def HP:TT:=fun _ H Q=>Q true H
theorem fA{X:Cx}:Lc X [] HP:=fun _ _ _ H _ I h=>wpAny_tests_nil ⟨H,I,h⟩
theorem Yd{X:Cx}{c:Expr}{t:TT}(h:PT X c t):Lc X [c] t:=fun pins s σ H Q I hq=>wpAny_tests_one (h pins s σ H Q I hq)
def qL(J:It)(ls:List Str)(js:List Nat)(g:TG)(tt:TT)(te:TE)(σ:St)(H1:Hp)(D:Addr)(Q:VK):Prop:=
 ∃W:Nat→Nat→List V→St→Hp→Prop,(∃m,W 0 m [] (kq ls js σ) (upd H1 D (.lst [])))∧∀i m ys bo H',W i m ys bo H'→
 (J.stop i H'∧Q (.ref D) H')∨(J.go i H'∧∃N:List V→St→Hp→Prop,(∀FW fq H2,N FW fq H2→∃m',m'<m∧W (i+1) m' FW fq H2)∧∀x H2,J.D5 i H' x H2→g x bo H2 fun fq H3=>tt fq H3 fun b H4=>
  if b=true then te fq H4 fun y H5=>H5 D=some (.lst ys)∧ys.length<sizeLine∧N (ys++[y]) fq (upd H5 D (.lst (ys++[y])))else N ys fq H4)
def B_(wi:TI)(ls:List Str)(js:List Nat)(g:TG)(tt:TT)(te:TE):TE:=fun σ H Q=>wi σ H fun J H1=>∀D,H1 D=none→qL J ls js g tt te σ H1 D Q
section
variable{X:Cx}{tg iter elt:Expr}{ifs:List Expr}{scope:Scope}{pos:Pos}{wi:TI}{g:TG}{tt:TT}{te:TE}{ls cs:List Str}{js:List Nat}
theorem tL{pins:List (Addr×Obj)}{s:Shared}{σ:St}{H:Hp}{Q:VK}{use:Option (Value→Sem Unit)}{QQ:Value→Shared→Prop}(hc:X.calm=true)(S:ba X.N X.env.scope scope ls js cs)(hi:PI X tg iter wi)
  (hg:∀cU d8 C fp pn,PG (fz X scope (ls++cs) cU d8 C fp pn) tg g) (ht:∀cU d8 C fp pn,Lc (fz X scope (ls++cs) cU d8 C fp pn) ifs tt) (he:∀cU d8 C fp pn,PE (fz X scope (ls++cs) cU d8 C fp pn) elt te)
  (I:Inv X pins σ H s) (h:B_ wi ls js g tt te σ H Q)
  (OS:∀(D C:Addr)(H':Hp)(s':Shared)(m:Str→Option Value),Inv X pins σ H' s'→Q (.ref D) H'→s'.heap.Ns C m→gK X pins H' C→compPost (model X.prog X.w) X.A X.xe use QQ (.ref D) C (.ok .next) s')
  (hs:∀x,foldedSetIterable iter X.env x=pure x:=by intro _;rfl):
  wpAny (model X.prog X.w) X.A (comprehension (.ListComp elt [⟨tg,iter,ifs,0⟩] scope pos) scope X.env (firstIterPos [⟨tg,iter,ifs,0⟩] pos) (newList []) false (eval iter X.env) use) QQ X.xe s:=by
 refine wpAny_comprehension_free rfl hs (uq (S.has I.ok)) S.kind S.names (cj (hi pins s σ H _ I h) fun v s1 h1=>cj h1 fun Oj s2 h2=>?_);obtain⟨it,fp,tn,J,H2,rfl,I2,T,dq,f2,hW⟩:=h2;have Rh:∀b∈fp,b<s2.heap.objs.size:=fun b hb=>by
  obtain⟨o,e,_⟩:=T.obj 0 _ dq b hb;exact Heap.lt_size e
 refine wpAny_newObj_type ?_;have hD:H2 s2.heap.objs.size=none:=I2.bL.fresh (Nat.le_refl _);obtain⟨W,⟨m0,w0⟩,turn⟩:=hW _ hD;have I3:Inv X pins σ (upd H2 s2.heap.objs.size (.lst [])) {s2 with heap:=s2.heap.push {cls:= .type "list",dict:=none,data:= .seq ([]:List Value).toArray}}:=
  I2.laid (t':=s2.toks) (fun b u e=>Xl e) (Nat.le_refl _) ⟨Nat.zero_le _,[],0, .nil,Heap.get?_push_size _ rfl⟩
 have f3:∀b∈fp,gK X pins (upd H2 s2.heap.objs.size (.lst [])) b:=fun b hb=>⟨by rw[af (Nat.ne_of_lt (Rh b hb))];exact(f2 b hb).1,(f2 b hb).2⟩
 generalize Wq:upd H2 s2.heap.objs.size (.lst [])=H3 at I3 f3 w0;generalize Ld:({s2 with heap:=s2.heap.push {cls:= .type "list",dict:=none,data:= .seq ([]:List Value).toArray}}:Shared)=s3 at I3;have Ri:∀b∈fp,b<s3.heap.objs.size:=fun b hb=>by
  rw[←Ld];show b<(s2.heap.push _).objs.size;rw[Heap.size_push];exact Nat.lt_succ_of_lt (Rh b hb)
 have BG:tn 0 s3.heap:=T.keep 0 _ _ dq fun b hb o e=>by rw[←Ld];exact Xl e
 refine wpAny_newFunctionEnv S.FU (by intro y hy;simp at hy) (fun h4 MK Le=>?_) S.kind;have k4:∀b o,s3.heap.get? b=some o→h4.get? b=some o:=fun b o e=>Le.extBut b o (Nat.ne_of_lt (Heap.lt_size e)) (Xl e)
 have I4:=B9 (h1:=h4) S I3 f3 Ri MK k4;have TY:=I4.tok (s3.toks+([]:List (Str×Value)).length);have MR:tn 0 h4:=T.keep 0 _ _ BG fun b hb o e=>k4 b o e
 show codeAny (model X.prog X.w) X.A (.compStart (.ListComp elt [⟨tg,iter,ifs,0⟩] scope pos) 0 (.ref it) (.ref s2.heap.objs.size) (compEnvC scope (e6 X.env scope.names []) s3.heap.objs.size X.env)) (compPost (model X.prog X.w) X.A X.xe use QQ (.ref s2.heap.objs.size) s3.heap.objs.size) _;have XU:∀{H':Hp},(∀b∈fp,H' b=none)→∀b∈fp,gK (fz X scope (ls++cs) s3 H3 s3.heap.objs.size fp (X.pn++pins)) [] H' b:=fun{H'} hn b hb=>by
  obtain⟨q1,q2,q3,q4,q5,q6⟩:=f3 b hb;refine⟨hn b hb,Nat.ne_of_lt (Ri b hb),fun hm=>?_, .inl hb,fun x c e=>q5 x c (ji (S.has I.ok) (fun y d z=>by simp at z) e),fun p hp=>q6 p (by simpa[fz]using hp)⟩;rcases List.mem_cons.mp (I3.qB b hm)with z|z
  ·exact q2 z
  ·exact q3 z
 have loop:codeAny (model X.prog X.w) X.A (.compLoop (.ListComp elt [⟨tg,iter,ifs,0⟩] scope pos) 0 (.ref it) (.ref s2.heap.objs.size) (compEnvC scope (e6 X.env scope.names []) s3.heap.objs.size X.env)) (compPost (model X.prog X.w) X.A X.xe use QQ (.ref s2.heap.objs.size) s3.heap.objs.size)
   {s3 with heap:=h4,toks:=s3.toks+([]:List (Str×Value)).length}:=by
  refine uv (fun n s'=>∃i bo H',Inv (fz X scope (ls++cs) s3 H3 s3.heap.objs.size fp (X.pn++pins)) [] bo H' s'∧tn i s'.heap∧(∀b∈fp,H' b=none)∧∃ys,W i n ys bo H') ?_ m0 ⟨0,_,_,TY,MR,fun b hb=>(f3 b hb).1,[],w0⟩;rintro n s5 ⟨i,MS,H5,I5,JI,ME,ys,w5⟩;rcases turn i n ys MS H5 w5 with⟨stop,qn⟩|⟨go,N,hN,step⟩
  ·refine cj (T.done (fz X scope (ls++cs) s3 H3 s3.heap.objs.size fp (X.pn++pins)) rfl rfl rfl hc i [] s5 MS H5 (fun _ _=>False) I5 (XU ME) JI stop) fun r s6 ⟨hr,I6⟩=>?_
   subst hr;obtain⟨m,hm,_⟩:=id I6.loc;have un:Un (mQ X.stack) fp H3 H5 s3.heap s6.heap:=I6.base;have I7:Inv X pins σ H5 s6:=I3.Km (ch:=fp) I6.os un I6.bL I6.bare fun b hb=>by
    obtain⟨q1,q2,q3,q4,q5,q6⟩:=f3 b hb;exact⟨q4,q2,q5,q6⟩
   have fc:gK X pins H5 s3.heap.objs.size:=I3.sf (Nat.le_refl _) I6.free;exact OS _ _ H5 s6 m I7 qn hm fc
  ·refine cj (T.item (fz X scope (ls++cs) s3 H3 s3.heap.objs.size fp (X.pn++pins)) rfl rfl rfl hc i [] s5 MS H5 (fun _ _=>False) I5 (XU ME) JI go) fun r s6 ⟨u,hr,h6⟩=>?_
   subst hr;refine cj h6 fun _ s7 ⟨x,H7,I7,r7,y7,OT,T8⟩=>?_
   have T9:=I7.pinned (XU T8) (T.obj _ _ OT);refine cj (hg _ _ _ _ _ _ s7 MS H7 x u _ T9 r7 (step x H7 y7)) fun _ s8 ⟨MT,H8,I8,q8⟩=>?_
   refine cj (ht _ _ _ _ _ _ s8 MT H8 _ I8 q8) fun b s9 ⟨H9,I9,q9⟩=>?_
   have again:∀{FW:List V}{bo:St}{H':Hp}{s':Shared},Inv (fz X scope (ls++cs) s3 H3 s3.heap.objs.size fp (X.pn++pins)) ([]++qD fp s7.heap) bo H' s'→N FW bo H'→
     ∃m,m<n∧∃i bo H',Inv (fz X scope (ls++cs) s3 H3 s3.heap.objs.size fp (X.pn++pins)) [] bo H' s'∧tn i s'.heap∧(∀b∈fp,H' b=none)∧∃ys,W i m ys bo H':=fun{FW bo H' s'} I' n'=>by
    obtain⟨m',Av,w'⟩:=hN FW bo H' n';refine⟨m',Av,i+1,bo,H',I'.kh,T.keep _ _ _ OT fun b hb o e=>(I'.pin (b,o) (List.mem_append_right _ (List.mem_append_right _ (f9 hb e)))).1,fun b hb=>?_,FW,w'⟩;obtain⟨o,e,d⟩:=T.obj _ _ OT b hb;exact(I'.pin (b,o) (List.mem_append_right _ (List.mem_append_right _ (f9 hb e)))).2.1
   cases b with
   |false=>exact again I9 q9
   |true=>
    refine cj (he _ _ _ _ _ _ s9 MT H9 _ I9 q9) fun u2 Ex ⟨y,Ca,T_,Ua,Ub,hz,Uc⟩=>?_
    refine cj (cn _ Ex MT Ca (.ref s2.heap.objs.size) [y] (.ref s2.heap.objs.size) [u2] (fun _ H'=>N (ys++[y]) MT H') T_ rfl (.cons Ua .nil) ⟨_,ys,y,rfl,rfl,Ub,hz,Uc⟩) fun _ Lf ⟨_,Bm,Ud,_,Ue⟩=>?_
    exact again Ud Ue
 exact codeAny_compStart_list loop (T.self _ 0 _ _ _ MR loop)
theorem lh(hc:X.calm=true)(S:ba X.N X.env.scope scope ls js cs)(hi:PI X tg iter wi)
  (hg:∀cU d8 C fp pn,PG (fz X scope (ls++cs) cU d8 C fp pn) tg g) (ht:∀cU d8 C fp pn,Lc (fz X scope (ls++cs) cU d8 C fp pn) ifs tt) (he:∀cU d8 C fp pn,PE (fz X scope (ls++cs) cU d8 C fp pn) elt te)
  (hs:∀x,foldedSetIterable iter X.env x=pure x:=by intro _;rfl):PE X (.ListComp elt [⟨tg,iter,ifs,0⟩] scope pos) (B_ wi ls js g tt te):=by
 intro pins s σ H Q I h;rw[eval_ListComp];refine tL (use:=none) hc S hi hg ht he I h (fun D C H' s' m I' q hm fc=>⟨m,hm,fun h' Le=>?_⟩) hs;obtain⟨q1,q2,q3,q4,q5,q6⟩:=fc;exact⟨.ref D,H',I'.turned (t':=s'.toks) (fun b o hb e=>Le.extBut b o hb e) q1 (Ne.symm (Ne.symm q2)) q4 q5 q6,rfl,q⟩
theorem jC{x:Str}{i:Nat}{pos' Lg:Pos}(hc:X.calm=true)(hN:X.N.Nodup)(XD:X.N[i]?=some x)(hx:X.env.scope.names.lookup x=some .local)(S:ba X.N X.env.scope scope ls js cs)(hi:PI X tg iter wi)
  (hg:∀cU d8 C fp pn,PG (fz X scope (ls++cs) cU d8 C fp pn) tg g) (ht:∀cU d8 C fp pn,Lc (fz X scope (ls++cs) cU d8 C fp pn) ifs tt) (he:∀cU d8 C fp pn,PE (fz X scope (ls++cs) cU d8 C fp pn) elt te)
  (OU:swapsWith (.ListComp elt [⟨tg,iter,ifs,0⟩] scope pos) (some (.Name x pos')) Lg.line X.env=pure true:=by rfl)
  (hs:∀x,foldedSetIterable iter X.env x=pure x:=by intro _;rfl):PS X (.Assign [.Name x pos'] (.ListComp elt [⟨tg,iter,ifs,0⟩] scope pos) Lg) (Hj (B_ wi ls js g tt te) (Y7 i)):=by
 intro pins s σ H D I h;rw[exec_Assign_Name_used _ _ _ _ OU];refine wpAny_bind (wpAny_standAt (wpAny_bind ?_));show wpAny _ X.A (do let _←comprehension (.ListComp elt [⟨tg,iter,ifs,0⟩] scope pos) scope X.env (firstIterPos [⟨tg,iter,ifs,0⟩] pos) (newList []) false (eval iter X.env) (some (assign (.Name x pos') X.env))) _ _ s;refine wpAny_bind (wpAny_mono (tL (use:=some (assign (.Name x pos') X.env)) (QQ:=fun _ s'=>SP X pins D .next s') hc S hi hg ht he I h (fun Dl C H' s' m I' q hm fc=>?_) hs) (fun _ s' hq=>wpAny_pure (wpAny_pure hq)) fun _ _ e=>e);show wpAny _ X.A (assign (.Name x pos') X.env (.ref Dl)) _ _ _;obtain⟨q1,q2,q3,q4,q5,q6⟩:=fc;refine wpAny_assign_Name (tf (v:= .ref Dl) I' hN XD (.inl hx) rfl (fun s2 I2 ⟨a,Le,ha⟩=>?_) (.inr hx));have fj:C≠a:=by
  rcases ha with rfl|ha
  ·exact q2
  ·exact fun z=>q5 x a ha z.symm
 refine⟨m,hm.sameBut Le fj,fun h' OW=>?_⟩;exact⟨_,H',I2.turned (t':=s2.toks) (fun b o hb e=>OW.extBut b o hb e) q1 q2 q4 q5 q6,q⟩
end
def MU(z:Str):It:=⟨fun i _=>i<z.length,fun i H x H'=>H'=H∧∃c,z.cps.toList[i]?=some c∧x= .str ⟨#[c]⟩,fun i _=>z.length≤i⟩
theorem Cb{P:Program}{w:World}{K:Frag}{tg:Expr}{it:Addr}{z:Str}{ty:String}{t:Tok}(Bl:ty="str_ascii_iterator"∨ty="str_iterator"):Turn P w K tg (MU z) [it] it (fun i h=>h.IsStrIter it ty z t i) where
 mem:=XA
 obj:=fun i h st b hb=>by
  have e:b=it:=by simpa using hb
  subst e;obtain⟨o,e,c,d⟩:=st;exact⟨o,e,fun v z=>by rw[d]at z;cases z⟩
 keep:=fun i h h' st k=>let ⟨o,ho,r⟩:=st;⟨o,k it (XA) o ho,r⟩
 item:=by
  intro X hP hw hK hc i pins s σ H E I hf st hg;subst hP hw hK;obtain⟨f0,f1,f2,f3,f4,f5⟩:=hf it (XA);have hg:i<z.cps.size:=hg;have key:∀h',h'.IsStrIter it ty z t (i+1)→Heap.SameBut it s.heap h'→∃u,some (Value.str ⟨#[z.cps[i]]⟩ s.toks)=some u∧
    wpAny (model X.prog X.w) X.A (letOwnedTupleGo tg (.ref it) u) (fun _ s2=>∃x H',Inv X pins σ H' s2∧RelV x u∧(MU z).D5 i H x H'∧s2.heap.IsStrIter it ty z t (i+1)∧∀b∈[it],H' b=none) E {s with heap:=h',toks:=s.toks+1}:=fun h' aP sb=>by
   have I1:Inv X pins σ H {s with heap:=h',toks:=s.toks+1}:=I.turned (fun b o hb e=>(sb.2 b hb).trans e) f0 f1 f3 f4 f5;obtain⟨o,e,c,d⟩:=id aP;refine⟨_,rfl,vV (s:={s with heap:=h',toks:=s.toks+1}) e c d (by rcases Bl with rfl|rfl<;>decide) ⟨.str ⟨#[z.cps[i]]⟩,H,I1,⟨_,rfl⟩,⟨rfl,z.cps[i],by simp[hg],rfl⟩,aP,fun b hb=>(hf b hb).1⟩⟩
  rcases Bl with rfl|rfl
  ·exact wpAny_pyNext_ascii_item st (c:=z.cps[i]) (by simp[hg]) key
  ·exact wpAny_pyNext_wide_item st (c:=z.cps[i]) (by simp[hg]) key
 done:=by
  intro X hP hw hK hc i pins s σ H E I hf st hg;subst hP hw hK;obtain⟨f0,f1,f2,f3,f4,f5⟩:=hf it (XA);have hg:z.cps.size≤i:=hg;rcases Bl with rfl|rfl
  ·exact wpAny_pyNext_ascii_end (I.ok.hd hc) st (by simp[hg]) fun h' eb=>⟨rfl,I.turned (t':=s.toks) (fun b o hb e=>eb b o hb e) f0 f1 f3 f4 f5⟩
  ·exact wpAny_pyNext_wide_end (I.ok.hd hc) st (by simp[hg]) fun h' eb=>⟨rfl,I.turned (t':=s.toks) (fun b o hb e=>eb b o hb e) f0 f1 f3 f4 f5⟩
 self:=fun _ _ _ _ _ st h=>by
  rcases Bl with rfl|rfl
  ·exact wpAny_pyIter_striter_ascii st h
  ·exact wpAny_pyIter_striter_wide st h
section
variable{X:Cx}{tg:Expr}
def OX(tl:TE):TI:=fun σ H R=>tl σ H fun x H1=>∃z,x= .str z∧R (MU z) H1
theorem HQ{l:Expr}{tl:TE}(hl:PE X l tl):PI X tg l (OX tl):=by
 intro pins s σ H R I h;refine cj (hl pins s σ H _ I h) fun v s1 ⟨x,H1,I1,r1,q1⟩=>?_
 obtain⟨z,e,q⟩:=q1;subst e;obtain⟨t,rfl⟩:=r1;refine wpAny_pyIter_strU ?_;refine⟨s1.heap.objs.size,[s1.heap.objs.size],_,_,H1,rfl,I1.kept (t':=s1.toks) fun b o e=>Xl e,Cb (ty:=strIterType z) (t:=t) (by unfold strIterType;split<;>simp),⟨_,Heap.get?_push_size _ rfl,rfl,rfl⟩,fun b hb=>?_,q⟩;have e:b=s1.heap.objs.size:=by simpa using hb
 subst e;exact I1.sf (Nat.le_refl _) (I1.bL.fresh (Nat.le_refl _))
end
theorem m9{J:It}{n:Nat}{ls:List Str}{js:List Nat}{g:TG}{tt:TT}{te:TE}{σ:St}{H1:Hp}{D:Addr}{Q:VK}(Pv:Nat→List V→St→Hp→Prop)
  (h0:Pv 0 [] (kq ls js σ) (upd H1 D (.lst []))) (Ug:∀i ys σ H,i<n→Pv i ys σ H→J.go i H) (tm:∀ys σ H,Pv n ys σ H→J.stop n H)
  (hs:∀i ys σ H x H2,i<n→Pv i ys σ H→J.D5 i H x H2→g x σ H2 fun fq H3=>tt fq H3 fun b H4=>if b=true then te fq H4 fun y H5=>H5 D=some (.lst ys)∧ys.length<sizeLine∧Pv (i+1) (ys++[y]) fq (upd H5 D (.lst (ys++[y])))else Pv (i+1) ys fq H4)
  (hd:∀ys σ H,Pv n ys σ H→Q (.ref D) H):
  qL J ls js g tt te σ H1 D Q:=by
 refine⟨fun i m ys σ H=>m=n-i∧i≤n∧Pv i ys σ H,⟨n,XA,Nat.zero_le _,h0⟩,?_⟩;rintro i m ys σ H ⟨rfl,hi,p⟩;by_cases gT:i<n
 ·exact .inr ⟨Ug i ys σ H gT p,Pv (i+1),fun FW fq H2 p'=>⟨n-(i+1),Xx,rfl,gT,p'⟩,fun x H2 y=>hs i ys σ H x H2 gT p y⟩
 ·have e:i=n:=Xx;subst e;exact .inl ⟨tm ys σ H p,hd ys σ H p⟩
theorem jj{K:Frag}{a:Addr}{xs:List V}{ls:List Str}{js:List Nat}{g:TG}{tt:TT}{te:TE}{σ:St}{H1:Hp}{D:Addr}{Q:VK}(Pv:Nat→List V→St→Hp→Prop)
  (h0:Pv 0 [] (kq ls js σ) (upd H1 D (.lst []))) (hl:∀i ys σ H,i≤xs.length→Pv i ys σ H→iF K H a xs)
  (hs:∀i x ys σ H,xs[i]?=some x→Pv i ys σ H→g x σ H fun fq H3=>tt fq H3 fun b H4=>if b=true then te fq H4 fun y H5=>H5 D=some (.lst ys)∧ys.length<sizeLine∧Pv (i+1) (ys++[y]) fq (upd H5 D (.lst (ys++[y])))else Pv (i+1) ys fq H4)
  (hd:∀ys σ H,Pv xs.length ys σ H→Q (.ref D) H):
  qL (JG K a) ls js g tt te σ H1 D Q:=
 m9 (n:=xs.length) Pv h0 (fun i ys σ H hi p=>⟨xs,xs[i],hl i ys σ H (Nat.le_of_lt hi) p,by simp[hi]⟩) (fun ys σ H p=>⟨xs,hl _ ys σ H (Nat.le_refl _) p,Nat.le_refl _⟩)
  (fun i ys σ H x H2 hi p y=>by
   obtain⟨e,y⟩:=y;subst e;exact hs i x ys σ _ (y xs (hl i ys σ _ (Nat.le_of_lt hi) p)) p) hd
theorem jD{lo:Int}{n:Nat}{ls:List Str}{js:List Nat}{g:TG}{tt:TT}{te:TE}{σ:St}{H1:Hp}{D:Addr}{Q:VK}(Pv:Nat→List V→St→Hp→Prop)
  (h0:Pv 0 [] (kq ls js σ) (upd H1 D (.lst [])))
  (hs:∀i ys σ H,i<n→Pv i ys σ H→g (.int (lo+i)) σ H fun fq H3=>tt fq H3 fun b H4=>if b=true then te fq H4 fun y H5=>H5 D=some (.lst ys)∧ys.length<sizeLine∧Pv (i+1) (ys++[y]) fq (upd H5 D (.lst (ys++[y])))else Pv (i+1) ys fq H4)
  (hd:∀ys σ H,Pv n ys σ H→Q (.ref D) H):
  qL (Hl lo n) ls js g tt te σ H1 D Q:=
 m9 (n:=n) Pv h0 (fun i ys σ H hi p=>hi) (fun ys σ H p=>Nat.le_refl _)
  (fun i ys σ H x H2 hi p y=>by
   obtain⟨e,y⟩:=y;subst e y;exact hs i ys σ _ hi p) hd
theorem Cc{z:Str}{ls:List Str}{js:List Nat}{g:TG}{tt:TT}{te:TE}{σ:St}{H1:Hp}{D:Addr}{Q:VK}(Pv:Nat→List V→St→Hp→Prop)
  (h0:Pv 0 [] (kq ls js σ) (upd H1 D (.lst [])))
  (hs:∀i c ys σ H,z.cps.toList[i]?=some c→Pv i ys σ H→g (.str ⟨#[c]⟩) σ H fun fq H3=>tt fq H3 fun b H4=>if b=true then te fq H4 fun y H5=>H5 D=some (.lst ys)∧ys.length<sizeLine∧Pv (i+1) (ys++[y]) fq (upd H5 D (.lst (ys++[y])))else Pv (i+1) ys fq H4)
  (hd:∀ys σ H,Pv z.length ys σ H→Q (.ref D) H):
  qL (MU z) ls js g tt te σ H1 D Q:=
 m9 (n:=z.length) Pv h0 (fun i ys σ H hi p=>hi) (fun ys σ H p=>Nat.le_refl _)
  (fun i ys σ H x H2 hi p y=>by
   obtain⟨e,c,hc,ex⟩:=y;subst e ex;exact hs i c ys σ _ hc p) hd
theorem tM(z:Str)(lo hi:Option Int):(Txt.slice z lo hi).cps.toList=(z.cps.toList.drop (HT.kc z.length 0 lo)).take (HT.kc z.length z.length hi-HT.kc z.length 0 lo):=by
 have Uh:=HT.BX z.length 0 (Nat.zero_le _) lo;have Ui:=HT.BX z.length z.length (Nat.le_refl _) hi;have ix:Builtin.Str.strSliceIndices lo hi 1 z.length=(List.range (HT.kc z.length z.length hi-HT.kc z.length 0 lo)).map (HT.kc z.length 0 lo+·):=by
  rw[←sliceRange_one];have pos:(1:Int)>0:=Xy;cases lo with
  |none=>
   cases hi with
   |none=>rfl
   |some j=>
    simp only[Builtin.Str.strSliceIndices,HT.kc,pos,if_true]
    congr 1
    by_cases h:j<0
    ·simp only[h,if_true];lia
    ·simp only[h,if_false];lia
  |some i=>
   have e1:max 0 (min (if i<0 then i+(z.length:Int)else i) (z.length:Int))=((HT.kc z.length 0 (some i):Nat):Int):=by
    simp only[HT.kc];by_cases h:i<0
    ·simp only[h,if_true];lia
    ·simp only[h,if_false];lia
   cases hi with
   |none=>
    simp only[Builtin.Str.strSliceIndices,pos,if_true];rw[e1];rfl
   |some j=>
    have e2:max 0 (min (if j<0 then j+(z.length:Int)else j) (z.length:Int))=((HT.kc z.length z.length (some j):Nat):Int):=by
     simp only[HT.kc];by_cases h:j<0
     ·simp only[h,if_true];lia
     ·simp only[h,if_false];lia
    simp only[Builtin.Str.strSliceIndices,pos,if_true];rw[e1,e2]
 have hp:=pick_run z.cps (HT.kc z.length 0 lo) (HT.kc z.length z.length hi-HT.kc z.length 0 lo);unfold Txt.slice;rw[ix];split
 ·rename_i h
  simp only[List.length_map,List.length_range,beq_self_eq_true,Bool.true_and,beq_iff_eq]at h;have h0:HT.kc z.length 0 lo=0:=by lia
  have h1:HT.kc z.length z.length hi=z.length:=by lia
  rw[h0,h1,List.drop_zero,Nat.sub_zero,List.take_of_length_le (by simp[Str.length])]
 ·rw[←hp]
theorem oM(z:Str)(lo hi:Option Int):(Txt.slice z lo hi).length≤z.length:=Txt.slice_le z lo hi
section
variable{X:Cx}
def OY:V→Option Int→Option Int→Hp→VK→Prop:=fun x lo hi H Q=>∃z,x= .str z∧z.length≤sizeLine∧Q (.str (Txt.slice z lo hi)) H
theorem uw:MI X OY:=by
 intro pins s σ H x v vl vu lo hi sl Q I rx hs pl pu h;obtain⟨z,rfl,hz,q⟩:=h;obtain⟨t,rfl⟩:=rx;refine⟨"str",_,F.slot_str_getitem.lookup,typeIs_str _ _ _,?_⟩;have go:∀l u:Option (Int×Tok),vl=partValue l→vu=partValue u→l.map (·.1)=lo→u.map (·.1)=hi→wpAny (model X.prog X.w) X.A (getItem (.str z t) (.ref sl)) (EP X pins σ Q) X.xe s:=by
  rintro l u rfl rfl rfl rfl;obtain⟨o,h1,h2,h3⟩:=hs;refine wpAny_getItem_str_slice (l:=l) (u:=u) (st:=none) ⟨o,h1,h2,h3⟩ rfl ?_;exact post_val_or_str ⟨Nat.le_trans (Txt.slice_le z _ _) hz,fun t' k=>⟨.str (Txt.slice z (l.map (·.1)) (u.map (·.1))),H,I.tok _,⟨_,rfl⟩,q⟩⟩
 cases pl with
 |none=>
  cases pu with
  |none=>exact go none none rfl rfl rfl rfl
  |int j tj=>exact go none (some (j,tj)) rfl rfl rfl rfl
 |int i ti=>
  cases pu with
  |none=>exact go (some (i,ti)) none rfl rfl rfl rfl
  |int j tj=>exact go (some (i,ti)) (some (j,tj)) rfl rfl rfl rfl
theorem tN:qE X (compareOp .LtE) (fun x y H Q=>∃i j,x= .str i∧y= .str j∧Q (.bl (!decide (j.cps.toList<i.cps.toList))) H):=by
 intro pins s σ H x y v u Q I rx ry h;obtain⟨i,j,rfl,rfl,q⟩:=h;obtain⟨t,rfl⟩:=rx;obtain⟨t',rfl⟩:=ry;exact P.le_str (bA I q rfl)
theorem Ey{bs:List Bool}{us:List Value}(r:Vals (bs.map V.bl) us)(i:Nat)(v:Value)(h:us[i]?=some v):v= .bool (bs.getD i false):=by
 induction bs generalizing us i with
 |nil=>cases r;simp at h
 |cons b r' ih=>
  cases r with
  |cons r0 rr=>
   cases i with
   |zero=>
    have h0:some _=some v:=h;cases h0;exact r0
   |succ i=>simpa using ih rr i (by simpa using h)
theorem all_range(bs:List Bool):(List.range bs.length).all (fun i=>bs.getD i false)=bs.all id:=by
 rw[Bool.eq_iff_iff,List.all_eq_true,List.all_eq_true];constructor
 ·intro h b hb;obtain⟨i,hi,rfl⟩:=List.mem_iff_getElem.mp hb;have:=h i (by simpa using hi);simpa[hi]using this
 ·intro h i hi;have hi:i<bs.length:=by simpa using hi
  simpa[hi]using h bs[i] (List.getElem_mem hi)
def Lh(K:Frag)(f:List Bool→Bool):List V→Hp→VK→Prop:=fun xs H Q=>∃a bs,xs=[.ref a]∧iF K H a (bs.map V.bl)∧Q (.bl (f bs)) H
theorem Cd(hc:X.calm=true):h_ X (.builtin "all") (Lh X.K fun bs=>bs.all id):=by
 intro pins s σ H xs us Q I r h;obtain⟨a,bs,rfl,hq,q⟩:=h;cases r with
 |cons r rr=>
  cases rr;cases r;obtain⟨its,rv,p,hz⟩:=I.list hq;have hl:=rv.length;rw[List.length_map]at hl;refine call_all_walk (wpAny_pyIter_list p.isList ?_);have fj:a≠s.heap.objs.size:=by
   obtain⟨o,n,e,_⟩:=p;exact Nat.ne_of_lt (Heap.lt_size e)
  refine⟨s.heap.objs.size,_,_,_,_,_,fun i=>bs.getD i false,rfl,Walks.list (A:=X.A.in1) (show X.A.in1.handled=none from I.ok.hd hc) _ a fj its.toArray,⟨⟨_,Heap.get?_push_size _ rfl,rfl,rfl⟩,p.isList.at fun o e=>Xl e⟩,fun i v s1 Q1 E1 hv q1=>?_,fun h' tk hk=>?_⟩
  ·have hv:=Ey rv i v (by simpa using hv);subst hv;exact wpAny_truthy_bool q1
  ·rw[List.size_toArray,←hl,all_range];refine⟨.bl (bs.all id),H,I.kept fun b o e=>hk b o (fun z=>?_) (Xl e),rfl,q⟩;have z:b=s.heap.objs.size:=by simpa using z
   exact absurd (z▸Heap.lt_size e) (Nat.lt_irrefl _)
def FX:V→Option Value
 | .ty n=>some (.type n)
 | .ref C=>some (.ref C)
 | _=>none
theorem Aw{c:V}{cv u:Value}(h:FX c=some cv)(r:RelV c u):u=cv:=by
 cases c<;>first
  |(cases h;done)
  |(cases h;exact r)
inductive HR(K:Frag)(xs:List V)(H:Hp)(Q:VK):Prop
 |mk (x:_) (c:_) (t:_) (b:_) (cv:_) (_:xs=[x,c]) (_:FX c=some cv) (_:oJ K H x t) (_:kitOne K t cv=some b) (_:Q (.bl b) H):HR K xs H Q
theorem Ce:h_ X (.builtin "isinstance") (HR X.K):=by
 intro pins s σ H xs us Q I r h;obtain⟨x,c,t,b,cv,rfl,rc,ty,hk,q⟩:=h;cases r with
 |cons r1 rr=>
  cases rr with
  |cons r2 rr=>
   cases rr;cases Aw rc r2;exact Ai I r1 ty hk fun tk=>⟨.bl b,H,I.tok _,rfl,q⟩
end
section
variable{P:Program}{w:World}{K:Frag}{mg:Str→Option Value}{base:Heap}
abbrev MV(P:Program)(w:World)(K:Frag)(mg:Str→Option Value)(base:Heap)(cm:Bool)(N:List Str)(qual:Str)(scope:Scope)(f:Addr)(cd:Value)(A:Around)(outer:List Env)(s:Shared)(H:Hp)(E:XK):Cx:=
 XY (c8 P w) cm P w K mg base N qual scope f cd A outer s H E
theorem jY.gL{cm:Bool}{x qual:Str}{st:Stmt}{f:Addr}{fd:FuncData}{N ps:List Str}{k:Nat}{sp:Sp}(F:jY K x qual st f fd)(S:aJ N ps (aq st))(len:∀vs H Q E,sp vs H Q E→vs.length=ps.length)
  (vZ:∀(bY:Value)(A:Around)(outer:List Env)(s:Shared)(H:Hp)(vs:List V)(Q:VK)(E:XK),d7 cm k (A.deeper (envOfC qual (aq st) s.heap.objs.size f bY))→sp vs H Q E→
   MO (MV P w K mg base cm N qual (aq st) f bY A outer s H E) (fun _=>E)→
   ∃t,Aa (MV P w K mg base cm N qual (aq st) f bY A outer s H E) (dS st) t∧t {nx:=fun _ H'=>Q .cD H',rt:=Q} (start N vs) H):aY P w K mg base (c8 P w) cm (k+1) f fd ps sp:=by
 obtain⟨oc,od,kV,doc,pm,an,bY,ct,XM,rfl,lk,Ab⟩:=F.ex;exact FN lk Ab S len fun A outer s H vs Q E hr DM=>vZ bY A outer s H vs Q E hr DM Yj
end
def bZ(P:Program)(w:World)(K:Frag)(mg:Str→Option Value)(base:Heap)(cm:Bool)(k:Nat)(x:Str)(ps:List Str)(sp:Sp):Prop:=
 ∃f fd,aY P w K mg base (c8 P w) cm k f fd ps sp∧mg x=some (.ref f)∧keepIn K (.ref f)=true∧Binds K fd ps []
theorem Cf{P:Program}{w:World}{K:Frag}{mg:Str→Option Value}{base:Heap}{cm:Bool}{k:Nat}{x y:Str}{ps:List Str}{sp:Sp}{st:Stmt}{f:Addr}{fd:FuncData}(F:jY K x y st f fd)(hm:mg x=some (.ref f))(b:Binds K fd ps [])
  (ok:aY P w K mg base (c8 P w) cm k f fd ps sp):bZ P w K mg base cm k x ps sp:=⟨f,fd,ok,hm,F.kp,b⟩
section
variable{X:Cx}{cm:Bool}{k:Nat}{x:Str}{ps:List Str}{sp:Sp}{E:St→XK}{e:Expr}{es:List Expr}{t:TA}{p pos:Pos}
theorem aR(D:bZ X.prog X.w X.K X.mg X.base cm k x ps sp)(hr:d7 cm k X.A)(hx:Passes (c8 X.prog X.w) X E)(ha:PA X (e::es) t)(hg:Gl X x:=by rfl)(ub:(x==("__debug__":Str))=false:=by decide)
  (he:starEach (e::es) X.env=(false,eval e X.env)::starEach es X.env:=by rfl) (pN:(backTo pos (starEach es X.env)).any (·.1)=false:=by rfl):PE X (.Call (.Name x p) (e::es) [] pos) (FK sp [] E t):=by
 obtain⟨f,fd,ok,hm,hk,hb⟩:=D;exact Eb ok hr hg hm hk hb .nil hx ha ub he pN
theorem eX{v:V}(h:∃u,X.mg x=some u∧RelV v u)(hg:Gl X x:=by rfl)(hd:(x==("__debug__":Str))=false:=by decide):PE X (.Name x pos) (tC v):=by
 obtain⟨u,h1,h2⟩:=h;exact YZ hg h1 h2 hd
end
theorem ux{σ:St}{H:Hp}{A B:Hp→Prop}(h:A H):HP σ H (fun b H4=>if b=true then A H4 else B H4):=by
 show if true=true then A H else B H
 exact ko h
theorem kr{i:Nat}{x:V}{σ:St}{H:Hp}{A B:St→Hp→Prop}(h:A (σ.set i (some x)) H):Y7 i x σ H (fun fq H3=>HP fq H3 (fun b H4=>if b=true then A fq H4 else B fq H4)):=by
 show if true=true then A (σ.set i (some x)) H else B (σ.set i (some x)) H
 exact ko h
theorem aD{n:Nat}(h:n≤100000):n≤sizeLine:=Nat.le_trans h (Xy)
theorem a_{n:Nat}(h:n≤100000):n<sizeLine:=Nat.lt_of_le_of_lt h (Xy)
def OZ(t u:TS):TS:=fun D σ H=>∃Pm:St→Hp→Prop,t {D with nx:=Pm} σ H∧∀bo H',Pm bo H'→u D bo H'
theorem aE{X:Cx}{st:Stmt}{rest:List Stmt}{t u:TS}(h1:PS X st t)(h2:Aa X rest u):Aa X (st::rest) (OZ t u):=by
 intro pins s σ H D I h;obtain⟨Pm,ht,hu⟩:=h;refine wpAny_execs_cons (cj (h1 pins s σ H {D with nx:=Pm} I ht) fun f s1 q=>?_);cases f with
 |next=>obtain⟨bo,H',I',p⟩:=q;exact h2 pins s1 bo H' D I' (hu bo H' p)
 |brk=>exact q
 |cont=>exact q
 |ret v=>exact q
theorem au.upd{H:Hp}{a:Addr}{o:HO}(h:H a=none):au H (upd H a o):=fun b u e=>by rw[af (aB e h)];exact e
theorem au.eQ{H H':Hp}{a:Addr}{o:HO}(s:au H H')(h:H a=none):au H (L2.upd H' a o):=fun b u e=>by rw[af (aB e h)];exact s b u e
end L2
namespace QF
open PySem L2
theorem rZ{n:Nat}{P:List Value→Prop}(h:∀a us,us.length=n→P (a::us)):∀us:List Value,us.length=n+1→P us:=fun us e=>by
 cases us with
 |nil=>cases e
 |cons a r=>exact h a r (Nat.succ.inj e)
theorem JL{P:List Value→Prop}(h:P []):∀us:List Value,us.length=0→P us:=fun us e=>by
 cases us with
 |nil=>exact h
 |cons a r=>cases e
theorem Uj{P:List Value→Prop}(h:∀a,P [a]):∀us:List Value,us.length=1→P us:=rZ fun a=>JL (h a)
theorem Uk{P:List Value→Prop}(h:∀a b,P [a,b]):∀us:List Value,us.length=2→P us:=rZ fun a=>rZ fun b=>JL (h a b)
theorem Ul{P:List Value→Prop}(h:∀a b c,P [a,b,c]):∀us:List Value,us.length=3→P us:=rZ fun a=>rZ fun b=>rZ fun c=>JL (h a b c)
theorem Um{P:List Value→Prop}(h:∀a b c d,P [a,b,c,d]):∀us:List Value,us.length=4→P us:=rZ fun a=>rZ fun b=>rZ fun c=>rZ fun d=>JL (h a b c d)
theorem Uo{P:List Value→Prop}(h:∀a b c d e,P [a,b,c,d,e]):∀us:List Value,us.length=5→P us:=rZ fun a=>rZ fun b=>rZ fun c=>rZ fun d=>rZ fun e=>JL (h a b c d e)
theorem Up{P:List Value→Prop}(h:∀a b c d e f g,P [a,b,c,d,e,f,g]):∀us:List Value,us.length=7→P us:=rZ fun a=>rZ fun b=>rZ fun c=>rZ fun d=>rZ fun e=>rZ fun f=>rZ fun g=>JL (h a b c d e f g)
theorem O0(us:List Value)(e:us.length=7):∃a b c d e f g,us=[a,b,c,d,e,f,g]:=Up (P:=fun us=>∃a b c d e f g,us=[a,b,c,d,e,f,g]) (fun a b c d e f g=>⟨a,b,c,d,e,f,g,rfl⟩) us e
end QF
namespace L2
open PySem PySem.Spec PyProof.Rows PySem.W PySem.Calls
def notStar:Expr→Bool
 | .Starred _ _=>false
 | _=>true
theorem qM{e:Expr}{es:List Expr}{env:Env}(h:notStar e=true):starEach (e::es) env=(false,eval e env)::starEach es env:=by
 cases e<;>first|rfl|cases h
theorem ak{X:Cx}{e:Expr}{es:List Expr}{te:TE}{t:TA}(ha:PE X e te)(hr:PA X es t)(hn:notStar e=true:=by rfl):PA X (e::es) (FJ te t):=Ea ha hr (qM hn)
structure gM(K:Frag)(x qual:Str)(st:Stmt)(f:Addr)(fd:FuncData):Prop where
 ex:∃(oc:Value)(od:Option Addr)(dV kV doc pm:Value)(an:Option Addr)(bY ct:Value)(XM:Array (Option Value)),
  fd=fnOf x qual (eK st) (dS st) (aq st) dV kV doc pm an bY ct∧K.lookup f=some ⟨oc,od, .func fd,XM⟩∧codeIn K bY qual=true
 kp:keepIn K (.ref f)=true
theorem Ys{K:Frag}{x qual:Str}{st:Stmt}{f:Addr}{oc:Value}{od an:Option Addr}{XM:Array (Option Value)}{dV kV doc pm bY ct:Value}(l:K.lookup f=some ⟨oc,od, .func (fnOf x qual (eK st) (dS st) (aq st) dV kV doc pm an bY ct),XM⟩)
  (c:codeIn K bY qual=true) (k:keepIn K (.ref f)=true):gM K x qual st f (fnOf x qual (eK st) (dS st) (aq st) dV kV doc pm an bY ct):=⟨⟨oc,od,dV,kV,doc,pm,an,bY,ct,XM,rfl,l,c⟩,k⟩
section
variable{P:Program}{w:World}{K:Frag}{mg:Str→Option Value}{base:Heap}
theorem gM.gL{cm:Bool}{x qual:Str}{st:Stmt}{f:Addr}{fd:FuncData}{N ps:List Str}{k:Nat}{sp:Sp}(F:gM K x qual st f fd)(S:aJ N ps (aq st))(len:∀vs H Q E,sp vs H Q E→vs.length=ps.length)
  (vZ:∀(bY:Value)(A:Around)(outer:List Env)(s:Shared)(H:Hp)(vs:List V)(Q:VK)(E:XK),d7 cm k (A.deeper (envOfC qual (aq st) s.heap.objs.size f bY))→sp vs H Q E→
   MO (MV P w K mg base cm N qual (aq st) f bY A outer s H E) (fun _=>E)→
   ∃t,Aa (MV P w K mg base cm N qual (aq st) f bY A outer s H E) (dS st) t∧t {nx:=fun _ H'=>Q .cD H',rt:=Q} (start N vs) H):aY P w K mg base (c8 P w) cm (k+1) f fd ps sp:=by
 obtain⟨oc,od,dV,kV,doc,pm,an,bY,ct,XM,rfl,lk,Ab⟩:=F.ex;exact FN lk Ab S len fun A outer s H vs Q E hr DM=>vZ bY A outer s H vs Q E hr DM Yj
end
def dP(P:Program)(w:World)(K:Frag)(mg:Str→Option Value)(base:Heap)(cm:Bool)(k:Nat)(C:Addr)(m:Str)(ps:List Str)(sp:Sp):Prop:=
 ∃f fd,aY P w K mg base (c8 P w) cm k f fd ps sp∧Meth K C m f∧Binds K fd ps []∧ua K C
def lS(P:Program)(w:World)(K:Frag)(mg:Str→Option Value)(base:Heap)(cm:Bool)(k:Nat)(x:Str)(C:Addr)(ps:List Str)(k_:List V)(sp:Sp):Prop:=
 ∃f fd ds,aY P w K mg base (c8 P w) cm k f fd ps sp∧Mk K C f∧mg x=some (.ref C)∧Binds K fd ps ds∧Vals k_ ds
theorem wk{P:Program}{w:World}{K:Frag}{mg:Str→Option Value}{base:Heap}{cm:Bool}{k:Nat}{x:Str}{C f:Addr}{fd:FuncData}{ps:List Str}{k_:List V}{ds:List Value}{sp:Sp}(h1:aY P w K mg base (c8 P w) cm k f fd ps sp)(h2:Mk K C f)(h3:mg x=some (.ref C))(h4:Binds K fd ps ds)(h5:Vals k_ ds):lS P w K mg base cm k x C ps k_ sp:=⟨f,fd,ds,h1,h2,h3,h4,h5⟩
theorem Ax{P:Program}{w:World}{K:Frag}{mg:Str→Option Value}{base:Heap}{cm:Bool}{k:Nat}{m:Str}{C f:Addr}{fd:FuncData}{ps:List Str}{sp:Sp}(h1:aY P w K mg base (c8 P w) cm k f fd ps sp)(h2:Meth K C m f)(h3:Binds K fd ps [])(h4:ua K C):dP P w K mg base cm k C m ps sp:=⟨f,fd,h1,h2,h3,h4⟩
section
variable{X:Cx}{cm:Bool}{k:Nat}{x m:Str}{ps:List Str}{sp:Sp}{E:St→XK}{e o:Expr}{es:List Expr}{t:TA}{to:TE}{p pos apos:Pos}{C:Addr}{k_:List V}
theorem qu(D:lS X.prog X.w X.K X.mg X.base cm k x C ps k_ sp)(hr:d7 cm (k+1) X.A)(hx:Passes (c8 X.prog X.w) X E)(ha:PA X (e::es) t)(hg:Gl X x:=by rfl)(ub:(x==("__debug__":Str))=false:=by decide)
  (he:starEach (e::es) X.env=(false,eval e X.env)::starEach es X.env:=by rfl) (pN:(backTo pos (starEach es X.env)).any (·.1)=false:=by rfl):PE X (.Call (.Name x p) (e::es) [] pos) (Y2 C sp k_ E t):=by
 obtain⟨f,fd,ds,ok,M,hm,hb,hd⟩:=D;exact Ed M ok hr hg hm hb hd hx ha ub he pN
theorem bE{pl:Sem Bool}(ho:PE X o to)(D:dP X.prog X.w X.K X.mg X.base cm k C m ps sp)(hr:d7 cm k X.A)(hx:Passes (c8 X.prog X.w) X E)(ha:PA X (e::es) t)
  (tm:starEach (e::es) X.env=(false,eval e X.env)::starEach es X.env:=by rfl) (pN:(backTo pos (starEach es X.env)).any (·.1)=false:=by rfl)
  (ht:eval (.Call (.Attribute o m apos) (e::es) [] pos) X.env=(do
   let ov←eval o X.env
   standAt apos.atName
   let (f,first)←holding [ov] (getMethod ov m pl)
   callWith pos f first (backTo pos (starEach (e::es) X.env)) (backToKw pos (keywordEach [] X.env))):=by rfl):PE X (.Call (.Attribute o m apos) (e::es) [] pos) (YA C m sp [] E to t):=by
 obtain⟨f,fd,ok,hm,hb,c⟩:=D;exact Ec ho c hm ok hr hb .nil hx ha tm pN ht
theorem Ay{pl:Sem Bool}(ho:PE X o to)(D:dP X.prog X.w X.K X.mg X.base cm k C m ps sp)(hr:d7 cm k X.A)(hx:Passes (c8 X.prog X.w) X E)
  (ht:eval (.Call (.Attribute o m apos) [] [] pos) X.env=(do
   let ov←eval o X.env
   standAt apos.atName
   let (f,first)←holding [ov] (getMethod ov m pl)
   callWith pos f first (backTo pos (starEach [] X.env)) (backToKw pos (keywordEach [] X.env))):=by rfl):PE X (.Call (.Attribute o m apos) [] [] pos) (YA C m sp [] E to BM):=by
 obtain⟨f,fd,ok,hm,hb,c⟩:=D;exact BO ho c hm ok hr hb .nil hx ht
end
section
variable{X:Cx}
theorem bB(K:Frag){tg l:Expr}{tl:TE}(hl:PE X l tl)(h:X.K=K:=by rfl):PI X tg l (FC K tl):=h▸D6 hl
theorem aC(K:Frag){e:Expr}{f:Str}{pos:Pos}{ta:TE}(he:PE X e ta)(hb:attributeBase e f X.env (eval e X.env)=eval e X.env:=by rfl)(h:X.K=K:=by rfl):PE X (.Attribute e f pos) (KI K ta f):=h▸Hr he hb
theorem bU(K:Frag){o value:Expr}{f:Str}{pos pos':Pos}{ta tv:TE}(ha:PE X o ta)(hv:PE X value tv)(hs:swapsWith value (some (.Attribute o f pos')) pos.line X.env=pure false:=by rfl)(h:X.K=K:=by rfl):PS X (.Assign [.Attribute o f pos'] value pos) (KJ K ta tv f):=h▸Hs ha hv hs
theorem ar(K:Frag)(h:X.K=K:=by rfl):JJ X (HA K):=h▸En
theorem cX(K:Frag)(h:X.K=K:=by rfl):JJ X (HB K):=h▸HC
theorem Cg(K:Frag)(h:X.K=K:=by rfl):MI X (HF K):=h▸Eo
inductive FY(K:Frag)(xs:List V)(H:Hp)(Q:VK):Prop
 |mk (p:_) (ys:_) (_:xs=[.ref p]) (_:(iF K H p ys∨BB K H p ys)) (_:Q (.int ys.length) H):FY K xs H Q
theorem aK(K:Frag)(h:X.K=K:=by rfl):h_ X (.builtin "len") (FY K):=by
 subst h;intro pins s σ H xs us Q I r hq;obtain⟨p,ys,e,d,q⟩:=hq;exact uk pins s σ H xs us Q I r ⟨p,ys,e,d,q⟩
inductive Z0(K:Frag)(xs:List V)(H:Hp)(Q:VK):Prop
 |mk (p:_) (ys:_) (_:xs=[.ref p]) (_:(iF K H p ys∨BB K H p ys)) (_:∀l,H l=none→Q (.ref l) (upd H l (.lst ys))):Z0 K xs H Q
theorem eU(K:Frag)(h:X.K=K:=by rfl):h_ X (.type "list") (Z0 K):=by
 subst h;intro pins s σ H xs us Q I r hq;obtain⟨p,ys,e,d,q⟩:=hq;exact um pins s σ H xs us Q I r ⟨p,ys,e,d,q⟩
theorem Az(K:Frag)(hc:X.calm=true)(h:X.K=K:=by rfl):h_ X (.builtin "all") (Lh K fun bs=>bs.all id):=h▸Cd hc
theorem f_(K:Frag)(h:X.K=K:=by rfl):h_ X (.builtin "isinstance") (HR K):=h▸Ce
theorem iI(K:Frag){es:List Expr}{k:Nat}{t:FA}{n:Nat}{pos:Pos}(hc:X.calm=true)(h:Kv X es t)
  (hn:(assignEach es X.env).length=n:=by rfl) (tm:(assignEach es X.env).findIdx? (·.1)=none:=by rfl) (hK:X.K=K:=by rfl):PG X (.Tuple es k pos) (Hh K n t):=hK▸Hi hc h hn tm
theorem fB(K:Frag){T:String}{name:Str}{id:String}{r:V→List V→Hp→VK→Prop}{o e:Expr}{es:List Expr}{apos dO:Pos}{to:TE}{t:TA}(pa:PlainAttrs T)(slot:Slot T name id)(Bl:typeOf (.builtin id)=pure (.type "method_descriptor"))(hm:MJ X id r)(ho:PE X o to)(ha:PA X (e::es) t)
  (mZ:attributeBase o name X.env (eval o X.env)=eval o X.env:=by rfl)
  (B1:((backTo dO (starEach (e::es) X.env)).all (fun x=>!x.1)&&(backToKw dO (keywordEach [] X.env)).all (fun x=>x.1.isSome)
   &&decide ((e::es).length+([]:List Keyword).length+(if ([]:List Keyword).isEmpty then 0 else 1)<30))=true:=by rfl)
  (m3:(apos.endLine==dO.line)=true:=by rfl) (hs:starEach (e::es) X.env=(false,eval e X.env)::starEach es X.env:=by rfl) (YH:(backTo dO (starEach es X.env)).any (·.1)=false:=by rfl) (hK:X.K=K:=by rfl):
  PE X (.Call (.Attribute o name apos) (e::es) [] dO) (Q8 K T r to t):=hK▸K0 pa slot Bl hm ho ha mZ B1 m3 hs YH
end
section
variable{X:Cx}
end
end L2
namespace QF
open PySem L2
structure TB(mg:Str→Option Value):Prop where
 dI:mg "len"=none
 gq:mg "range"=none
 dz:mg "isinstance"=none
 FZ:mg "int"=none
 HS:mg "bool"=none
 Rj:mg "str"=none
 jE:mg "list"=none
 Ez:mg "tuple"=none
 O1:mg "dict"=none
 Li:mg "all"=none
 Rk:mg "any"=none
 Y5:mg "min"=none
 F0:mg "max"=none
 iJ:mg "enumerate"=none
 EA:mg "ValueError"=none
def BL(mg:Str→Option Value)(x:Str)(v:V):Prop:=∃u,mg x=some u∧RelV v u
def cell(ns:List Int)(k:Int):Int:=ns.getD k.toNat 0
theorem EB{ns:List Int}{k:Int}(h0:0≤k)(h:k<(ns.length:Int)):si (ns.map V.int) k=some (.int (cell ns k)):=by
 obtain⟨j,rfl⟩:=Int.eq_ofNat_of_zero_le h0;have hj:j<ns.length:=Xx;refine av ?_;simp[cell,hj]
theorem cell_out{ns:List Int}{k:Int}(h0:0≤k)(h:¬k<(ns.length:Int)):cell ns k=0:=by
 have hj:ns.length≤k.toNat:=Xx;simp[cell,hj]
def low(c:Nat):Bool:=decide (97≤c)&&decide (c≤122)
def p6(z:Str):Bool:=decide (1≤z.length)&&decide (z.length≤12)&&z.cps.toList.all low
theorem Rl(a b:Nat):(([a]:List Nat)<[b])↔a<b:=by
 constructor
 ·intro h;cases h with
  |rel h=>exact h
  |cons h=>cases h
 ·intro h;exact .rel h
theorem O2(c:Nat):(!decide (([c]:List Nat)<(Str.ofString "a").cps.toList))=decide (97≤c):=by
 have e:(Str.ofString "a").cps.toList=[97]:=by decide+kernel
 rw[e,Bool.eq_iff_iff];simp only[Bool.not_eq_true',decide_eq_false_iff_not,decide_eq_true_eq,Rl];omega
theorem O3(c:Nat):(!decide ((Str.ofString "z").cps.toList<([c]:List Nat)))=decide (c≤122):=by
 have e:(Str.ofString "z").cps.toList=[122]:=by decide+kernel
 rw[e,Bool.eq_iff_iff];simp only[Bool.not_eq_true',decide_eq_false_iff_not,decide_eq_true_eq,Rl];omega
theorem len_app(x y:Str):(x++y).length=x.length+y.length:=by
 show(x.cps++y.cps).size=_;rw[Array.size_append];rfl
inductive Ci(K:W.Frag)(vs:List V)(H:Hp)(Q:VK)(u3:XK):Prop
 |mk (a:_) (ns:_) (k:_) (_:vs=[.ref a, .int k]) (_:iF K H a (ns.map V.int)) (_:0≤k) (_:Q (.int (cell ns k)) H):Ci K vs H Q u3
inductive qN(vs:List V)(H:Hp)(Q:VK)(u3:XK):Prop
 |mk (i:_) (_:vs=[.int i]) (_:Q (.bl true) H):qN vs H Q u3
inductive YL(vs:List V)(H:Hp)(Q:VK)(u3:XK):Prop
 |mk (c:Nat) (_:vs=[.str ⟨#[c]⟩]) (_:Q (.bl (low c)) H):YL vs H Q u3
inductive uy(vs:List V)(H:Hp)(Q:VK)(u3:XK):Prop
 |mk (z:Str) (_:vs=[.str z]) (_:z.length≤100000) (_:∀H',au H H'→Q (.bl (p6 z)) H'):uy vs H Q u3
inductive l8(vs:List V)(H:Hp)(Q:VK)(u3:XK):Prop
 |mk (l n h:Int) (_:vs=[.int l, .int n, .int h]) (_:Q (.bl (decide (l≤n)&&decide (n≤h))) H):l8 vs H Q u3
def YB(K:W.Frag):Sp:=fun vs H Q _=>∃(a:Addr)(ns:List Int),vs=[.ref a]∧iF K H a (ns.map V.int)∧ns.length≤63∧∀H',Q (.bl true) H'
structure Er(K:W.Frag)(mg:Str→Option Value)(x:Str)(C:Addr):Prop where
 m:mg x=some (.ref C)
 e:K7 K C
def inR(l n h:Int):Bool:=decide (l≤n)&&decide (n≤h)
inductive oN(C:Addr)(vs:List V)(H:Hp)(Q:VK)(E:XK):Prop
 |mk (nm:Str) (n l h:Int) (_:vs=[.str nm, .int n, .int l, .int h]) (_:nm.length≤20) (_:(0≤l∧l≤1)) (_:(h=100∨h=999999)) (_:(if inR l n h=true then Q .cD H else E (.ref C) none H)):oN C vs H Q E
theorem m_{i:Int}(h:i=0∨i=1∨i=12∨i=40∨i=60∨i=100∨i=999999):i.natAbs.log2<1920∧(Str.ofString (toString i)).length≤6:=by
 rcases h with rfl|rfl|rfl|rfl|rfl|rfl|rfl<;>exact⟨by decide+kernel,by decide+kernel⟩
theorem ll:(Str.empty).length=0:=by decide+kernel
theorem gE{x:V}:[x].length≤sizeLine:=aD Xr
def gN(x y:Str)(p:Int):Bool:=p6 x&&p6 y&&!(x==y)&&inR 0 p 999999
inductive uz(C:Addr)(vs:List V)(H:Hp)(Q:VK)(E:XK):Prop
 |mk (x y:Str) (p:Int) (_:vs=[.str x, .str y, .int p]) (_:x.length≤100000) (_:y.length≤100000) (_:(if gN x y p=true then ∀H',au H H'→Q .cD H' else ∀H',au H H'→E (.ref C) none H')):uz C vs H Q E
abbrev Form:=Str×Str×Int
def HU(f:Form):List V:=[.str f.1, .str f.2.1, .int f.2.2]
def j7(f:Form):List Key:=[.inr f.1, .inr f.2.1]
def ku(f:Form):List Key×V:=(j7 f, .int f.2.2)
def Bn(f:Form):Bool:=gN f.1 f.2.1 f.2.2
def cV(H:Hp)(xs:List V)(fs:List Form):Prop:=xs.length=fs.length∧∀(i:Nat)(f:Form),fs[i]?=some f→∃t,xs[i]?=some (V.ref t)∧H t=some (.tup (HU f))
def br(fs:List Form):Bool:=decide (fs.length≤60)&&fs.all Bn&&decide ((fs.map j7).Nodup)
def Short(fs:List Form):Prop:=fs.length≤1000∧∀f∈fs,f.1.length≤100000∧f.2.1.length≤100000
theorem cV.same{H H':Hp}{xs:List V}{fs:List Form}(t:cV H xs fs)(s:au H H'):cV H' xs fs:=⟨t.1,fun i f e=>let ⟨b,h1,h2⟩:=t.2 i f e;⟨b,h1,s _ _ h2⟩⟩
theorem cV.nil{H:Hp}:cV H [] []:=⟨rfl,fun i f e=>by simp at e⟩
inductive oO(C:Addr)(vs:List V)(H:Hp)(Q:VK)(E:XK):Prop
 |mk (a:Addr) (xs:List V) (fs:List Form) (_:vs=[.ref a]) (_:H a=some (.lst xs)) (_:cV H xs fs) (_:Short fs) (_:(if br fs=true then ∀H' d,au H H'→H d=none→H' d=some (.dT (fs.map ku))→Q (.ref d) H' else ∀H',au H H'→E (.ref C) none H')):oO C vs H Q E
theorem Yq(fs:List Form):(fs.map ku).map (·.1)=fs.map j7:=by rw[List.map_map];rfl
theorem Cj{fs:List Form}{i:Nat}{f:Form}(e:fs[i]?=some f)(h:Bn f=false):br fs=false:=by
 have hm:f∈fs:=Xi e;have:fs.all Bn=false:=by
  rw[Bool.eq_false_iff];intro z;rw[List.all_eq_true]at z;rw[z f hm]at h;cases h
 simp[br,this]
theorem AA{fs:List Form}{i:Nat}{f:Form}(e:fs[i]?=some f)(h:j7 f∈(fs.take i).map j7):br fs=false:=by
 have:¬(fs.map j7).Nodup:=fun z=>by
  obtain⟨hi,e'⟩:=Xd e;have e2:fs=fs.take i++f::fs.drop (i+1):=by
   rw[←e',List.getElem_cons_drop,List.take_append_drop]
  rw[e2,List.map_append,List.map_cons,List.nodup_append]at z;exact z.2.2 _ h _ (List.mem_cons_self) rfl
 simp[br,this]
theorem AB{fs:List Form}{i:Nat}{f:Form}(e:fs[i]?=some f):(fs.take (i+1)).map ku=(fs.take i).map ku++[ku f]:=by
 rw[List.take_succ,e,List.map_append];rfl
theorem Lj{fs:List Form}{k:List Key}(h:bj (fs.map ku) k=none):k∉fs.map j7:=by
 have:=wj h;rwa[Yq]at this
theorem HV{fs:List Form}{k:List Key}{v:V}(h:bj (fs.map ku) k=some v):k∈fs.map j7:=by
 have:=Z2 h;rwa[Yq]at this
structure Ck(K:W.Frag)(C:Addr):Prop where
 cl:ua K C
 same:bN K C "same"
 out:bN K C "out"
 into:bN K C "into"
 least:bN K C "least"
 part:bN K C "part"
 near:bN K C "near"
 Cm:bN K C "prices"
structure Nums where
 same:Int
 out:Int
 into:Int
 least:Int
 part:Int
def ik(n:Nums):Bool:=inR 1 n.same 999999&&inR 0 n.out 999999&&inR 0 n.into 999999&&inR 1 n.least 999999&&inR 1 n.part 100
def uA(n:Nums)(l d:Addr):List (Str×V):=[("same", .int n.same),("out", .int n.out),("into", .int n.into),("least", .int n.least),("part", .int n.part),("near", .ref l),("prices", .ref d)]
def lT(n:Nums):List (Str×V):=[("same", .int n.same),("out", .int n.out),("into", .int n.into),("least", .int n.least),("part", .int n.part)]
def SameBut(x:Addr)(H H':Hp):Prop:=∀b u,b≠x→H b=some u→H' b=some u
structure jF(H:Hp)(C x:Addr)(n:Nums)(fs:List Form)(dx l d:Addr)(xs:List V):Prop where
 ob:H x=some (.ins C dx (uA n l d))
 own:H dx=some (.own x)
 li:H l=some (.lst xs)
 tr:cV H xs fs
 di:H d=some (.dT (fs.map ku))
def Lk(H:Hp)(v:V)(xs:List V)(fs:List Form):Prop:=(v= .cD∧xs=[]∧fs=[])∨∃a,v= .ref a∧H a=some (.lst xs)∧cV H xs fs
inductive qv(C CT CN:Addr)(vs:List V)(H:Hp)(Q:VK)(E:XK):Prop
 |mk (x dx:Addr) (n:Nums) (nv:V) (xs:List V) (fs:List Form) (_:vs=[.ref x, .int n.same, .int n.out, .int n.into, .int n.least, .int n.part,nv]) (_:H x=some (.ins C dx [])) (_:H dx=some (.own x)) (_:Lk H nv xs fs) (_:Short fs) (_:(if ik n=true then(if br fs=true then ∀H' l d,SameBut x H H'→jF H' C x n fs dx l d xs→H l=none→H d=none→Q .cD H' else ∀H',SameBut x H H'→E (.ref CN) none H')else ∀H',SameBut x H H'→E (.ref CT) none H')):qv C CT CN vs H Q E
theorem O4(n:Nums):bf "part" (.int n.part) (bf "least" (.int n.least) (bf "into" (.int n.into) (bf "out" (.int n.out) (bf "same" (.int n.same) []))))=lT n:=by kernel_rfl
theorem O5(n:Nums)(l d:Addr):bf "prices" (.ref d) (bf "near" (.ref l) (lT n))=uA n l d:=by kernel_rfl
theorem Ll(n:Nums)(l:Addr):(bf "near" (.ref l) (lT n)).lookup ("near":Str)=some (V.ref l):=by kernel_rfl
theorem SameBut.refl{x:Addr}{H:Hp}:SameBut x H H:=fun _ _ _ h=>h
theorem SameBut.upd{x:Addr}{H H':Hp}{o:HO}(s:SameBut x H H'):SameBut x H (upd H' x o):=fun b u n h=>by rw[af n];exact s b u n h
theorem SameBut.same{x:Addr}{H H' H2:Hp}(s:SameBut x H H')(t:au H' H2):SameBut x H H2:=fun b u n h=>t b u (s b u n h)
theorem SameBut.laid{x a:Addr}{H H':Hp}{o:HO}(s:SameBut x H H')(h:H a=none):SameBut x H (L2.upd H' a o):=fun b u n e=>by rw[af (aB e h)];exact s b u n e
theorem SameBut.free{x l:Addr}{H H':Hp}{o:HO}(s:SameBut x H H')(hx:H' x=some o)(h:H' l=none):H l=none:=by
 cases e:H l with
 |none=>rfl
 |some u=>
  have n:l≠x:=fun z=>by rw[z,hx]at h;cases h
  rw[s l u n e]at h;cases h
theorem cV.but{x:Addr}{H H':Hp}{xs:List V}{fs:List Form}{C dx:Addr}{gs:List (Str×V)}(t:cV H xs fs)(s:SameBut x H H')(hx:H x=some (.ins C dx gs)):cV H' xs fs:=
 ⟨t.1,fun i f e=>let ⟨b,h1,h2⟩:=t.2 i f e;⟨b,h1,s _ _ (fun z=>by rw[z,hx]at h2;cases h2) h2⟩⟩
def fl(j:Nat):List V:=[.bl (decide (0=j)), .bl (decide (1=j)), .bl (decide (2=j)), .bl (decide (3=j)), .bl (decide (4=j)), .bl (decide (5=j)), .bl (decide (6=j)), .bl (decide (7=j)), .bl (decide (8=j)), .bl (decide (9=j)), .bl (decide (10=j)), .bl (decide (11=j)), .bl (decide (12=j)), .bl (decide (13=j))]
def kinds:List Str:=["word","book","terms","near","way","name","year","taken","full","many","no book","no finding","left","search","another"]
def kindOf(j:Nat):Str:=kinds.getD j ""
theorem int_at(is:List Int){i:Int}(h0:0≤i)(h:i<(is.length:Int)):∃m,m∈is∧si (is.map V.int) i=some (.int m):=by
 obtain⟨j,rfl⟩:=Int.eq_ofNat_of_zero_le h0;have hj:j<is.length:=Xx;exact⟨is[j],List.getElem_mem hj,av (by simp[hj])⟩
theorem Cn(n:Nums)(l d:Addr):(uA n l d).lookup ("same":Str)=some (V.int n.same):=by kernel_rfl
theorem l_out(n:Nums)(l d:Addr):(uA n l d).lookup ("out":Str)=some (V.int n.out):=by kernel_rfl
theorem HW(n:Nums)(l d:Addr):(uA n l d).lookup ("into":Str)=some (V.int n.into):=by kernel_rfl
theorem EC(n:Nums)(l d:Addr):(uA n l d).lookup ("least":Str)=some (V.int n.least):=by kernel_rfl
theorem Co(n:Nums)(l d:Addr):(uA n l d).lookup ("prices":Str)=some (V.ref d):=by kernel_rfl
theorem uB(n:Nums)(l d:Addr):(uA n l d).lookup ("pair_worth":Str)=none:=by kernel_rfl
end QF
namespace L2
open PySem PySem.Spec PyProof.Rows PySem.W PySem.Calls
section
variable{X:Cx}
end
end L2
namespace QF
open PySem L2
theorem O6{α:Type}{xs:List α}{i:Nat}{v:α}(h:xs[i]?=some v):si xs (0+(i:Int))=some v:=by
 rw[Int.zero_add];exact av h
def dA(fs:List Form)(x y:Str):Option Int:=(fs.find? fun f=>decide (f.1=x∧f.2.1=y)).map (·.2.2)
def du(same:Int)(fs:List Form)(x y:Str):Option Int:=if x=y then some same else(dA fs x y).map (same-·)
def bD:Option Int→V
 |none=> .cD
 |some i=> .int i
theorem uC(f:Form)(x y:Str):j7 f=[.inr x, .inr y]↔f.1=x∧f.2.1=y:=by simp[j7]
theorem tO(x y:Str):∀fs:List Form,bj (fs.map ku) [.inr x, .inr y]=(dA fs x y).map V.int
 |[]=>rfl
 |f::r=>by
  rw[List.map_cons];by_cases h:j7 f=[.inr x, .inr y]
  ·have h':=(uC f x y).mp h;rw[cf (show(ku f).1=_ from h)];simp[dA,List.find?_cons,h'.1,h'.2,ku]
  ·have h':¬(f.1=x∧f.2.1=y):=fun z=>h ((uC f x y).mpr z)
   rw[bW (show ¬(ku f).1=_ from h),tO x y r];simp[dA,List.find?_cons,h']
inductive uD(C:Addr)(vs:List V)(H:Hp)(Q:VK)(u3:XK):Prop
 |mk (t:Addr) (x y:Str) (n:Nums) (fs:List Form) (dx l d:Addr) (xs:List V) (_:vs=[.ref t, .str x, .str y]) (_:jF H C t n fs dx l d xs) (_:∀H',au H H'→Q (bD (du n.same fs x y)) H'):uD C vs H Q u3
abbrev F1:Str:=Str.ofString "abcdefghijklmnopqrstuvwxyz"
theorem Z7:F1.length=26:=by decide+kernel
theorem HX(zs:List Str){i:Int}(h0:0≤i)(h:i<(zs.length:Int)):∃m,m∈zs∧si (zs.map V.str) i=some (.str m):=by
 obtain⟨j,rfl⟩:=Int.eq_ofNat_of_zero_le h0;have hj:j<zs.length:=Xx;exact⟨zs[j],List.getElem_mem hj,av (by simp[hj])⟩
theorem nc(x y:Str):(x++y).cps.toList=x.cps.toList++y.cps.toList:=by
 show(x.cps++y.cps).toList=_;simp
def eV(H H':Hp):Prop:=∀t v,H t=some (.tup v)→H' t=some (.tup v)
theorem eV.same{H H':Hp}(s:au H H'):eV H H':=fun t v h=>s _ _ h
theorem eV.lst{H:Hp}{l:Addr}{xs:List V}{o:HO}(h:H l=some (.lst xs)):eV H (upd H l o):=fun t v e=>by
 rw[af (hZ e h (by intro z;cases z))];exact e
theorem cV.cw{H H':Hp}{xs:List V}{fs:List Form}(T:cV H xs fs)(k:eV H H'):cV H' xs fs:=⟨T.1,fun i f e=>let ⟨b,h1,h2⟩:=T.2 i f e;⟨b,h1,k _ _ h2⟩⟩
theorem cV.snoc{H:Hp}{xs:List V}{fs:List Form}{t:Addr}{f:Form}(T:cV H xs fs)(ht:H t=some (.tup (HU f))):cV H (xs++[.ref t]) (fs++[f]):=by
 refine⟨by simp[T.1],fun i g e=>?_⟩;by_cases h:i<fs.length
 ·rw[List.getElem?_append_left h]at e;obtain⟨b,h1,h2⟩:=T.2 i g e;exact⟨b,by rw[List.getElem?_append_left (by rw[T.1];exact h)];exact h1,h2⟩
 ·have hi:i=fs.length:=by
   have:=(Xd e).1;simp at this;omega
  subst hi;have hg:f=g:=by simpa using e
  subst hg;exact⟨t,by rw[←T.1];simp,ht⟩
theorem ED{n j:Nat}(h:j<n):BY n (j:Int)=some j:=by
 unfold BY;rw[if_pos Xs,if_pos Xs];simp
theorem EE:F1.cps.toList=(List.range 26).map (97+·):=by decide+kernel
theorem YQ{r:Int}:si F1.cps.toList (r%26)=some (97+(r%26).toNat):=by
 have h0:0≤r%26:=Xx;have h1:r%26<26:=Xx;generalize r%26=m at h0 h1;obtain⟨j,rfl⟩:=Int.eq_ofNat_of_zero_le h0;refine av ?_;have hj:j<26:=Xx;rw[EE];simp[hj]
theorem Yx(r:Int):low (97+(r%26).toNat)=true:=by
 have h1:(r%26).toNat≤25:=Xx;simp[low];omega
def lows(z:Str):Prop:=z.cps.toList.all low=true
def jk(bG:Str)(cell other:Int)(k:Nat):Str:=
 let size:=1+cell/2%12
 if cell%2=1 then Txt.slice bG none (some (1+(size+k)%12))
 else Txt.slice bG none (some (other%size))++⟨#[97+((other/12+k)%26).toNat]⟩++Txt.slice bG (some (other%size+1)) (some size)
theorem uE{n d:Nat}{v:Int}(h0:0≤v)(h:v≤n):HT.kc n d (some v)=v.toNat:=by
 simp only[HT.kc];split<;>omega
theorem kx{z:Str}{v:Int}(h0:0≤v)(h:v≤z.length):(Txt.slice z none (some v)).cps.toList=z.cps.toList.take v.toNat:=by
 rw[tM,uE h0 h,HT.v_];simp
theorem Cp{z:Str}{u v:Int}(h0:0≤u)(h1:u≤v)(h:v≤z.length):(Txt.slice z (some u) (some v)).cps.toList=(z.cps.toList.drop u.toNat).take (v.toNat-u.toNat):=by
 rw[tM,uE h0 Xs,uE Xs h]
theorem len_list(z:Str):z.cps.toList.length=z.length:=by simp[Str.length]
theorem Cq{z:Str}(h1:1≤z.length)(h2:z.length≤12)(h:lows z):p6 z=true:=by
 have h:z.cps.toList.all low=true:=h;simp[p6,h1,h2,h]
theorem Cr{bG:Str}(hl:bG.length=12)(hs:lows bG)(cell other:Int)(k:Nat):p6 (jk bG cell other k)=true:=by
 have lU:=List.all_eq_true.mp hs;have JM:=len_list bG;have z0:1≤1+cell/2%12∧1+cell/2%12≤12:=by lia
 unfold jk;simp only;generalize 1+cell/2%12=size at z0;split
 ·have z1:1≤1+(size+(k:Int))%12∧1+(size+(k:Int))%12≤12:=by lia
  generalize 1+(size+(k:Int))%12=m at z1;have e:=kx (z:=bG) (v:=m) (by lia) (by lia);have el:(Txt.slice bG none (some m)).length=m.toNat:=by rw[←len_list,e,List.length_take,JM];lia
  refine Cq Xv (by lia) ?_;unfold lows;rw[e,List.all_eq_true];exact fun c hc=>lU c (List.mem_of_mem_take hc)
 ·have z1:0≤other%size∧other%size<size:=⟨Int.emod_nonneg _ (by lia),Int.emod_lt_of_pos _ (by lia)⟩
  generalize other%size=iB at z1;have e1:=kx (z:=bG) (v:=iB) (by lia) (by lia);have e2:=Cp (z:=bG) (u:=iB+1) (v:=size) (by lia) (by lia) (by lia);have l1:(Txt.slice bG none (some iB)).length=iB.toNat:=by rw[←len_list,e1,List.length_take,JM];lia
  have l2:(Txt.slice bG (some (iB+1)) (some size)).length=size.toNat-(iB+1).toNat:=by rw[←len_list,e2,List.length_take,List.length_drop,JM];lia
  have el:(Txt.slice bG none (some iB)++(⟨#[97+((other/12+(k:Int))%26).toNat]⟩:Str)++Txt.slice bG (some (iB+1)) (some size)).length=size.toNat:=by
   rw[len_app,len_app,l1,l2];show iB.toNat+1+_=_
   lia
  refine Cq Xv (by lia) ?_;unfold lows;rw[nc,nc,e1,e2,List.all_append,List.all_append];have a1:(bG.cps.toList.take iB.toNat).all low=true:=List.all_eq_true.mpr fun c hc=>lU c (List.mem_of_mem_take hc)
  have a2:((bG.cps.toList.drop (iB+1).toNat).take (size.toNat-(iB+1).toNat)).all low=true:=List.all_eq_true.mpr fun c hc=>lU c (List.mem_of_mem_drop (List.mem_of_mem_take hc))
  have a3:=Yx (other/12+(k:Int));rw[a1,a2];simp[a3]
theorem HY{A B:List Nat}{c:Nat}:(A++[c]++B)[A.length]?=some c:=XA
theorem Cs{bG:Str}(hl:bG.length=12)(cell other:Int){k k':Nat}(hk:k<12)(Ct:k'<12)(e:jk bG cell other k=jk bG cell other k'):k=k':=by
 have JM:=len_list bG;have z0:1≤1+cell/2%12∧1+cell/2%12≤12:=by lia
 unfold jk at e;simp only at e;generalize 1+cell/2%12=size at z0 e;split at e
 ·have e:=congrArg (fun z:Str=>z.cps.toList.length) e;rw[kx Xv (by lia),kx Xv (by lia),List.length_take,List.length_take,JM,hl]at e
  lia
 ·have z1:0≤other%size∧other%size<size:=⟨Int.emod_nonneg _ (by lia),Int.emod_lt_of_pos _ (by lia)⟩
  generalize other%size=iB at z1 e;have e1:=kx (z:=bG) (v:=iB) (by lia) (by lia);have l1:(bG.cps.toList.take iB.toNat).length=iB.toNat:=by rw[List.length_take,JM];lia
  have at_:∀c:Nat,(Txt.slice bG none (some iB)++(⟨#[c]⟩:Str)++Txt.slice bG (some (iB+1)) (some size)).cps.toList[iB.toNat]?=some c:=fun c=>by
   rw[nc,nc,e1];have:=HY (A:=bG.cps.toList.take iB.toNat) (B:=(Txt.slice bG (some (iB+1)) (some size)).cps.toList) (c:=c);rw[l1]at this;exact this
  have e:=congrArg (fun z:Str=>z.cps.toList[iB.toNat]?) e;have e2:=(at_ _).symm.trans (e.trans (at_ _));have e3:=Option.some.inj e2
  lia
theorem ZU{bG:Str}(hl:bG.length=12)(cell other:Int){n:Nat}(hn:n≤12):((List.range n).map (jk bG cell other)).Nodup:=by
 refine List.pairwise_map.mpr ?_;refine List.Pairwise.imp_of_mem (R:=fun a b=>a≠b) (fun{a b} ha hb h e=>h ?_) List.nodup_range;exact Cs hl cell other (by have:=List.mem_range.mp ha;omega) (by have:=List.mem_range.mp hb;omega) e
inductive uF(vs:List V)(H:Hp)(Q:VK)(u3:XK):Prop
 |mk (cell other many:Int) (_:vs=[.int cell, .int other, .int many]) (_:0≤many) (_:many≤12) (_:∀H' b (zs:List Str),au H H'→H b=none→H' b=some (.lst (zs.map V.str))→zs.length=many.toNat→(∀z∈zs,p6 z=true)→zs.Nodup→Q (.ref b) H'):uF vs H Q u3
structure cL(zs:List Str)(i j:Nat)(fs:List Form):Prop where
 ok:∀f∈fs,Bn f=true
 nd:(fs.map j7).Nodup
 old:∀f∈fs,∃i' j',(i'<i∨(i'=i∧j'<j))∧zs[i']?=some f.1∧zs[j']?=some f.2.1
 ue:fs.length+(if i<j then 1 else 0)≤i*(zs.length-1)+j
theorem cL.nil{zs:List Str}:cL zs 0 0 []:=⟨XA,XA,XA,XA⟩
theorem cL.skip{zs:List Str}{i j:Nat}{fs:List Form}(p:cL zs i j fs):cL zs i (j+1) fs:=by
 refine⟨p.ok,p.nd,fun f hf=>?_,?_⟩
 ·obtain⟨i',j',h,r⟩:=p.old f hf;exact⟨i',j',Xx,r⟩
 ·have:=p.ue;split<;>split at this<;>omega
theorem wm{zs:List Str}(hn:zs.Nodup){i j:Nat}{x:Str}(h1:zs[i]?=some x)(h2:zs[j]?=some x):i=j:=by
 obtain⟨a1,b1⟩:=Xd h1;obtain⟨a2,b2⟩:=Xd h2;exact(List.getElem_inj hn).mp (b1.trans b2.symm)
theorem cL.add{zs:List Str}{i j:Nat}{fs:List Form}(p:cL zs i j fs)(hn:zs.Nodup)(hw:∀z∈zs,p6 z=true){x y:Str}(hx:zs[i]?=some x)(hy:zs[j]?=some y)(fj:¬x=y){pr:Int}(h0:0≤pr)(h1:pr≤999999):
  cL zs i (j+1) (fs++[(x,y,pr)]):=by
 have r6:i≠j:=fun e=>fj (by subst e;rw[hx]at hy;exact Option.some.inj hy)
 refine⟨fun f hf=>?_,?_,fun f hf=>?_,?_⟩
 ·rcases List.mem_append.mp hf with h|h
  ·exact p.ok f h
  ·have h:f=(x,y,pr):=by simpa using h
   rw[h];have a1:=hw x (Xi hx);have a2:=hw y (Xi hy);simp[Bn,gN,a1,a2,fj,inR,h0,h1]
 ·rw[List.map_append];refine List.nodup_append.mpr ⟨p.nd,XA,fun a ha b hb e=>?_⟩;have hb:b=j7 (x,y,pr):=by simpa using hb
  rw[e,hb]at ha;obtain⟨f,hf,ef⟩:=List.mem_map.mp ha;obtain⟨e1,e2⟩:=(uC f x y).mp ef;obtain⟨i',j',h,r1,r2⟩:=p.old f hf;rw[e1]at r1;rw[e2]at r2;have:=wm hn r1 hx;have:=wm hn r2 hy;omega
 ·rcases List.mem_append.mp hf with h|h
  ·obtain⟨i',j',h,r⟩:=p.old f h;exact⟨i',j',Xx,r⟩
  ·have h:f=(x,y,pr):=by simpa using h
   rw[h];exact⟨i,j,Xx,hx,hy⟩
 ·have:=p.ue;rw[List.length_append];show fs.length+1+_≤_;split<;>split at this<;>omega
theorem cL.row{zs:List Str}{i:Nat}{fs:List Form}(p:cL zs i zs.length fs)(hi:i<zs.length):cL zs (i+1) 0 fs:=by
 refine⟨p.ok,p.nd,fun f hf=>?_,?_⟩
 ·obtain⟨i',j',h,r⟩:=p.old f hf;exact⟨i',j',Xx,r⟩
 ·have h:=p.ue;rw[Xo hi]at h;rw[if_neg Xs,Nat.succ_mul];omega
theorem cL.good{zs:List Str}{fs:List Form}(p:cL zs zs.length 0 fs)(h:zs.length≤8):br fs=true:=by
 have h1:=p.ue;have h2:zs.length*(zs.length-1)≤8*7:=Nat.mul_le_mul h Xs;rw[if_neg Xs]at h1;have h3:fs.length≤60:=Xx;have h4:fs.all Bn=true:=List.all_eq_true.mpr p.ok;simp[br,h3,h4,p.nd]
theorem ZF{fs:List Form}(h:br fs=true):Short fs:=by
 simp only[br,Bool.and_eq_true,decide_eq_true_eq,List.all_eq_true]at h;refine⟨Xx,fun f hf=>?_⟩;have h1:=h.1.2 f hf;simp only[Bn,gN,p6,Bool.and_eq_true,decide_eq_true_eq]at h1;omega
inductive uG(vs:List V)(H:Hp)(Q:VK)(u3:XK):Prop
 |mk (cell same:Int) (b:Addr) (zs:List Str) (_:vs=[.int cell, .ref b, .int same]) (_:H b=some (.lst (zs.map V.str))) (_:zs.length≤8) (_:(∀z∈zs,p6 z=true)) (_:zs.Nodup) (_:1≤same) (_:same≤999999) (_:∀H' l xs fs,au H H'→H l=none→H' l=some (.lst xs)→cV H' xs fs→br fs=true→Q (.ref l) H'):uG vs H Q u3
inductive qO(vs:List V)(H:Hp)(Q:VK)(u3:XK):Prop
 |mk (x y:Str) (same:Int) (l:Addr) (xs:List V) (fs:List Form) (_:vs=[.str x, .str y, .int same, .ref l]) (_:H l=some (.lst xs)) (_:cV H xs fs) (_:Q (bD (du same fs x y)) H):qO vs H Q u3
theorem lp{zs:List Str}{i:Nat}{v:V}(h:(zs.map V.str)[i]?=some v):∃x,zs[i]?=some x∧v= .str x:=by
 rw[List.getElem?_map]at h;cases e:zs[i]? with
 |none=>rw[e]at h;cases h
 |some x=>rw[e]at h;exact⟨x,rfl,(Option.some.inj h).symm⟩
theorem Cu{fs:List Form}{x y:Str}(h:∀f∈fs,¬(f.1=x∧f.2.1=y)):dA fs x y=none:=by
 have:fs.find? (fun f=>decide (f.1=x∧f.2.1=y))=none:=by
  rw[List.find?_eq_none];intro f hf;simpa using h f hf
 unfold dA;rw[this];rfl
theorem pQ:∀{fs:List Form}{i:Nat}{x y x0 y0:Str}{p:Int},fs[i]?=some (x0,y0,p)→(∀f∈fs.take i,¬(f.1=x∧f.2.1=y))→(x0=x∧y0=y)→dA fs x y=some p
 |f::r,0,x,y,x0,y0,p,h,_,e=>by
  have h:f=(x0,y0,p):=by simpa using h
  rw[h];simp[dA,List.find?_cons,e.1,e.2]
 |f::r,i+1,x,y,x0,y0,p,h,hn,e=>by
  have h1:¬(f.1=x∧f.2.1=y):=hn f Xr;have:=pQ (fs:=r) (i:=i) (x:=x) (y:=y) (by simpa using h) (fun g hg=>hn g (by simp[hg])) e;simpa[dA,List.find?_cons,h1]using this
def sw(f:Form):Form:=(f.2.1,f.1,f.2.2)
inductive l_(K:W.Frag)(vs:List V)(H:Hp)(Q:VK)(u3:XK):Prop
 |mk (a:Addr) (ns:List Int) (k:Int) (_:vs=[.ref a, .int k]) (_:iF K H a (ns.map V.int)) (_:0≤k) (_:∀H' D (s o i l:Int),au H H'→H D=none→H' D=some (.lst [.int s, .int o, .int i, .int l])→(1≤s∧s≤999999)→(0≤o∧o≤999999)→(0≤i∧i≤999999)→(1≤l∧l≤999999)→Q (.ref D) H'):l_ K vs H Q u3
theorem jF.same{H H':Hp}{C x:Addr}{n:Nums}{fs:List Form}{dx l d:Addr}{xs:List V}(T:jF H C x n fs dx l d xs)(s:au H H'):jF H' C x n fs dx l d xs:=⟨s _ _ T.ob,s _ _ T.own,s _ _ T.li,T.tr.same s,s _ _ T.di⟩
theorem EF{is:List Int}(h:is.length=4):∃a b c d,is=[a,b,c,d]:=by
 match is,h with
 |[a,b,c,d],_=>exact⟨a,b,c,d,rfl⟩
theorem SameBut.YU{x dx C:Addr}{H H':Hp}(hx:H x=none)(Cv:H dx=none)(s:SameBut x (L2.upd (L2.upd H dx (.own x)) x (.ins C dx [])) H'):au H H':=fun b u e=>by
 have n1:b≠x:=aB e hx;have n2:b≠dx:=aB e Cv;exact s b u n1 (by rw[af n1,af n2];exact e)
end QF
namespace L2
open PySem PySem.Spec PyProof.Rows PySem.W PySem.Calls
section
variable{X:Cx}{pins:List (Addr×Obj)}{σ:St}{H:Hp}{s:Shared}{h':Heap}
theorem Inv.EG{t':Nat}{fp:List Addr}(I:Inv X pins σ H s)(hf:∀b∈fp,gK X pins H b)(k:∀b o,b∉fp→s.heap.get? b=some o→h'.get? b=some o):Inv X pins σ H {s with heap:=h',toks:=t'}:=by
 have Fw:∀b u,H b=some u→b∉fp:=fun b u e z=>by rw[(hf b z).1]at e;cases e
 refine I.step (g':=s.gens) (d':=s.drawn) (ch:=fp) (fun b hb=>?_) (fun b o _ _ hc e _=>k b o hc e) (fun b o _ _ hc e _=>⟨o.slots,k b o hc e⟩) (fun _ _ _ _ n=>n)
  (fun b o hc e=>⟨o,k b o hc e⟩) (fun _ _ e=>e) (fun _ _ _ e=>e) (fun b ps e=>⟨#[],by rw[e];simp⟩) (fun m hm=>?_) (fun b u e=>?_) I.bare
 ·obtain⟨_,f1,_,f3,f4,f5⟩:=hf b hb;exact⟨f3,f1,f4,f5⟩
 ·obtain⟨o,es,ep,ho,r⟩:=hm;exact⟨o,es,ep,k _ o (fun z=>(hf _ z).2.1 rfl) ho,r⟩
 ·refine(I.bL b u e).t5 (fun c v hc q=>k c v ?_ q) (fun _ q=>q) fun _ _ q=>q
  rcases hc with z|z
  ·rw[z];exact Fw b u e
  ·exact Fw c _ z
theorem Inv.Yy{t':Nat}{fp:List Addr}{T:Addr}{u:HO}(I:Inv X pins σ H s)(hf:∀b∈fp,gK X pins H b)(hT:gK X pins H T)(k:∀b o,b∉fp→s.heap.get? b=some o→h'.get? b=some o)
  (new:cF X.prog X.w (upd H T u) h' T u):Inv X pins σ (upd H T u) {s with heap:=h',toks:=t'}:=by
 have Fw:∀b u,H b=some u→b∉fp:=fun b u e z=>by rw[(hf b z).1]at e;cases e
 have nT:∀b v,H b=some v→b≠T:=fun b v e z=>by rw[z,hT.1]at e;cases e
 refine I.step (g':=s.gens) (d':=s.drawn) (ch:=T::fp) (fun b hb=>?_) (fun b o _ _ hc e _=>k b o (fun z=>hc (List.mem_cons_of_mem _ z)) e) (fun b o _ _ hc e _=>⟨o.slots,k b o (fun z=>hc (List.mem_cons_of_mem _ z)) e⟩) (fun b _ hc _ n=>?_)
  (fun b o hc e=>⟨o,k b o (fun z=>hc (List.mem_cons_of_mem _ z)) e⟩) (fun b xs e=>by rw[af (nT b _ e)];exact e) (fun b o v e=>by rw[af (nT b _ e)];exact e) (fun b ps e=>⟨#[],by rw[af (nT b _ e),e];simp⟩) (fun m hm=>?_) (fun b v e=>?_) I.bare
 ·rcases List.mem_cons.mp hb with z|z
  ·subst z;obtain⟨_,f1,_,f3,f4,f5⟩:=hT;exact⟨f3,f1,f4,f5⟩
  ·obtain⟨_,f1,_,f3,f4,f5⟩:=hf b z;exact⟨f3,f1,f4,f5⟩
 ·rw[af (fun z=>hc (by simp[z]))];exact n
 ·obtain⟨o,es,ep,ho,r⟩:=hm;exact⟨o,es,ep,k _ o (fun z=>(hf _ z).2.1 rfl) ho,r⟩
 ·by_cases hb:b=T
  ·subst hb;rw[ae]at e;cases e;exact new
  ·rw[af hb]at e;refine(I.bL b v e).t5 (fun c v' hc q=>k c v' ?_ q) (fun c q=>by rw[af (nT c _ q)];exact q) fun c xs q=>by rw[af (nT c _ q)];exact q
   rcases hc with z|z
   ·rw[z];exact Fw b v e
   ·exact Fw c _ z
theorem Inv.swap{d:Addr}{u u':HO}(I:Inv X pins σ H s)(e:H d=some u)(ht:∀xs,u≠ .tup xs)(ho:∀x,u≠ .own x)(hb:∀ps,u≠ .DZ ps)(hf:∀o v,X.d8 d≠some (.qo o v))(new:cF X.prog X.w (upd H d u') s.heap d u'):Inv X pins σ (upd H d u') s:=by
 have nd:∀b,H b=none→b≠d:=fun b n z=>by rw[z,e]at n;cases n
 have nt:∀b xs,H b=some (.tup xs)→b≠d:=fun b xs q z=>by rw[z,e]at q;cases q;exact ht xs rfl
 have no:∀b x,H b=some (.own x)→b≠d:=fun b xs q z=>by rw[z,e]at q;cases q;exact ho xs rfl
 refine⟨I.ok,I.os,I.bare,⟨I.base.keep,I.base.slot,fun b o q n hx=>?_,I.base.there,fun b xs q=>?_,fun b o v q=>?_,fun b ps q=>?_⟩,I.loc,I.cell,?_,fun x c q=>?_,fun p hp=>?_,fun b v q=>?_,I.len⟩
 ·have z:=I.base.free b o q n hx;rw[af (nd b z)];exact z
 ·have z:=I.base.cw b xs q;rw[af (nt b xs z)];exact z
 ·have z:=I.base.mT b o v q;rw[af (fun y=>by subst y;exact hf o v q)];exact z
 ·obtain⟨m,z⟩:=I.base.p4 b ps q;exact⟨m,by rw[af (fun y=>by rw[y,e]at z;cases z;exact hb _ rfl)];exact z⟩
 ·rw[af (nd _ I.free)];exact I.free
 ·rw[af (nd _ (I.lR x c q))];exact I.lR x c q
 ·obtain⟨p1,p2,p3⟩:=I.pin p hp;exact⟨p1,by rw[af (nd _ p2)];exact p2,p3⟩
 ·by_cases Ro:b=d
  ·subst Ro;rw[ae]at q;cases q;exact new
  ·rw[af Ro]at q;exact(I.bL b v q).t5 (fun c v' _ z=>z) (fun c z=>by rw[af (no c _ z)];exact z) fun c xs z=>by rw[af (nt c _ z)];exact z
end
def JN(K:Frag)(a:Addr):It:=
 ⟨fun i H=>∃xs x,iF K H a xs∧xs[i]?=some x,fun i H x H'=>∃T y,x= .ref T∧H T=none∧H'=upd H T (.tup [.int i,y])∧∀xs,iF K H a xs→xs[i]?=some y,fun i H=>∃xs,iF K H a xs∧xs.length≤i⟩
theorem AD{P:Program}{w:World}{K:Frag}{elts:List Expr}{n:Nat}{pos:Pos}(a e it:Addr)(fj:e≠it):
  Turn P w K (.Tuple elts n pos) (JN K a) [e,it] e (fun i h=>(∃old,IsEnum h e it (i:Nat) old)∧h.IsListIter it a i) where
 mem:=XA
 obj:=fun i h st b hb=>by
  obtain⟨⟨old,s1⟩,o,s2,_,s3⟩:=st;rcases List.mem_cons.mp hb with z|z
  ·subst z;exact⟨_,s1,fun v z=>by
    have z':Data.fields _=Data.cell v:=z;cases z'⟩
  ·have e:b=it:=by simpa using z
   subst e;exact⟨o,s2,fun v z=>by rw[s3]at z;cases z⟩
 keep:=fun i h h' st k=>⟨⟨st.1.choose,k e Xr _ st.1.choose_spec⟩,st.2.at fun o q=>k it (XA) o q⟩
 item:=by
  intro X hP hw hK hc i pins s σ H E I hf st hg;subst hP hw hK;obtain⟨xs,x,hq,hx⟩:=hg;obtain⟨⟨old,s1⟩,s2⟩:=st;obtain⟨its,rv,p,hz⟩:=I.list hq;obtain⟨u,hu,ru⟩:=rv.get hx;refine wpAny_pyNext_enum_item s1 s2 p.isList (x:=u) (by simpa using hu) fj fun h' o1 o2 o3 o4 o5=>?_
  refine⟨_,rfl,wpAny_letOwnedTupleGo_enum (s:={s with heap:=h',toks:=s.toks+1}) o1 fun h2 q1 q2=>?_⟩;have B4:h2.get? s.heap.objs.size=some {cls:=Value.type "tuple",data:=Data.seq #[Value.int (↑i) s.toks,u]}:=by
   exact(q2.2 _ (Nat.ne_of_gt (Heap.lt_size s1))).trans o3
  have hT:gK X pins H s.heap.objs.size:=I.sf (Nat.le_refl _) (I.bL.fresh (Nat.le_refl _));have I1:Inv X pins σ (upd H s.heap.objs.size (.tup [.int i,x])) {s with heap:=h2,toks:=s.toks+1}:=by
   refine I.Yy hf hT (fun b o hb q=>?_) ⟨by simp[sizeLine],[Value.int (↑i) s.toks,u], .cons ⟨_,rfl⟩ (.cons ru .nil),?_⟩
   ·have b1:b≠e:=fun z=>hb (by simp[z])
    have b2:b≠it:=fun z=>hb (by simp[z])
    exact(q2.2 b b1).trans (o5 b o b1 b2 q)
   ·exact⟨_,B4,rfl,_,rfl⟩
  refine⟨.ref s.heap.objs.size,_,I1,rfl,⟨_,x,rfl,hT.1,rfl,fun ys hy=>by rw[I.vU hy hq];exact hx⟩,⟨⟨u,by simpa using q1⟩,o2.at fun o q=>(q2.2 it (Ne.symm fj)).trans q⟩,fun b hb=>?_⟩;rw[af (fun z=>?_)]
  ·exact(hf b hb).1
  ·have h1:=Heap.lt_size s1;obtain⟨_,h2,_⟩:=s2;have h3:=Heap.lt_size h2;rcases List.mem_cons.mp hb with y|y
   ·rw[z.symm.trans y]at h1;exact absurd h1 (Nat.lt_irrefl _)
   ·have:b=it:=by simpa using y
    rw[z.symm.trans this]at h3;exact absurd h3 (Nat.lt_irrefl _)
 done:=by
  intro X hP hw hK hc i pins s σ H E I hf st hg;subst hP hw hK;obtain⟨xs,hq,hx⟩:=hg;obtain⟨⟨old,s1⟩,s2⟩:=st;obtain⟨its,rv,p,hz⟩:=I.list hq;have hl:=rv.length;exact wpAny_pyNext_enum_end (I.ok.hd hc) s1 s2 p.isList (by simp;omega) fun h' eb=>⟨rfl,I.EG (t':=s.toks) hf (fun b o hb q=>eb b o (fun z=>hb (by simp[z])) q)⟩
 self:=fun _ _ _ _ _ st h=>wpAny_pyIter_enum st.1.choose_spec h
section
variable{X:Cx}{tg:Expr}
def F3(K:Frag)(ta:TA):TI:=fun σ H R=>ta σ H fun vs H1=>∃a,vs=[.ref a]∧(∃xs,iF K H1 a xs)∧R (JN K a) H1
theorem EH{elts:List Expr}{n:Nat}{tp:Pos}{a:Expr}{ta:TA}{p pos:Pos}(hg:Gl X "enumerate")(hm:X.mg "enumerate"=none)(ha:PA X [a] ta)(hs:starEach [a] X.env=[(false,eval a X.env)]:=by rfl):
  PI X (.Tuple elts n tp) (.Call (.Name "enumerate" p) [a] [] pos) (F3 X.K ta):=by
 intro pins s σ H R I h;refine Call_ (kg I hg hm boot_enumerate (PyProof.Rows.callWith_type1 (cj (ha pos pins s σ H _ I h) fun us s1 ⟨vs,H1,I1,r1,q1⟩=>?_) hs rfl));obtain⟨l,e,⟨xs,hq⟩,q⟩:=q1;subst e;cases r1 with
 |cons r rr=>
  cases rr;cases r;obtain⟨its,rv,p,hz⟩:=I1.list hq;refine call_enumerate_list p.isList fun h' o1 o2 o3 o4=>?_
  refine wpAny_pyIter_enum (s:={s1 with heap:=h'}) o1 ?_;refine⟨s1.heap.objs.size+1,[s1.heap.objs.size+1,s1.heap.objs.size],_,_,H1,rfl,I1.kept (t':=s1.toks) o4,AD l _ _ (Nat.succ_ne_self _),⟨⟨_,o1⟩,o2⟩,fun b hb=>?_,q⟩;have JO:s1.heap.objs.size≤b:=by
   rcases List.mem_cons.mp hb with y|y
   ·rw[y];exact Nat.le_succ _
   ·have:b=s1.heap.objs.size:=by simpa using y
    exact Nat.le_of_eq this.symm
  exact I1.sf JO (I1.bL.fresh JO)
end
theorem nh{X:Cx}(K:Frag){elts:List Expr}{n:Nat}{tp:Pos}{a:Expr}{ta:TA}{p pos:Pos}(hg:Gl X "enumerate")(hm:X.mg "enumerate"=none)(ha:PA X [a] ta)(hs:starEach [a] X.env=[(false,eval a X.env)]:=by rfl)(h:X.K=K:=by rfl):
  PI X (.Tuple elts n tp) (.Call (.Name "enumerate" p) [a] [] pos) (F3 K ta):=h▸EH hg hm ha hs
theorem wo{K:Frag}{a:Addr}{xs:List V}{g:TG}{tb:TS}{D:Ends}{σ:St}{H:Hp}(Pv:Nat→St→Hp→Prop)(h0:Pv 0 σ H)(hl:∀i σ H,i≤xs.length→Pv i σ H→iF K H a xs)
  (hs:∀i x T σ H,xs[i]?=some x→Pv i σ H→H T=none→g (.ref T) σ (upd H T (.tup [.int i,x])) fun fq H2=>tb {D with nx:=Pv (i+1),ct:=Pv (i+1),bk:=D.nx} fq H2) (hd:∀σ H,Pv xs.length σ H→D.nx σ H):
  ∃W:Nat→Nat→St→Hp→Prop,(∃m,W 0 m σ H)∧∀i m σ H,W i m σ H→
   ((JN K a).stop i H∧D.nx σ H)∨((JN K a).go i H∧∃N:St→Hp→Prop,(∀bo H',N bo H'→∃m',m'<m∧W (i+1) m' bo H')∧∀x H',(JN K a).D5 i H x H'→g x σ H' fun fq H2=>tb {D with nx:=N,ct:=N,bk:=D.nx} fq H2):=by
 refine⟨fun i m σ H=>m=xs.length-i∧i≤xs.length∧Pv i σ H,⟨xs.length,XA,Nat.zero_le _,h0⟩,?_⟩;rintro i m σ H ⟨rfl,hi,p⟩;have hq:=hl i σ H hi p;by_cases gT:i<xs.length
 ·refine .inr ⟨⟨xs,xs[i],hq,by simp[gT]⟩,Pv (i+1),fun bo H' p'=>⟨xs.length-(i+1),Xx,rfl,gT,p'⟩,fun x H' y=>?_⟩;obtain⟨T,y,rfl,hT,rfl,hy⟩:=y;exact hs i y T σ H (hy xs hq) p hT
 ·have e:i=xs.length:=Xx;subst e;exact .inl ⟨⟨xs,hq,Nat.le_refl _⟩,hd σ H p⟩
def NF(d8:Hp)(d:Addr):Prop:=∀o v,d8 d≠some (.qo o v)
section
variable{X:Cx}{tg:Expr}
end
end L2
namespace QF
open PySem L2
inductive uH(K:W.Frag)(vs:List V)(H:Hp)(Q:VK)(u3:XK):Prop
 |mk (a b:Addr) (ns:List Int) (zs:List Str) (c p m:Int) (_:vs=[.ref a, .int c, .int p, .int m, .ref b]) (_:iF K H a (ns.map V.int)) (_:H b=some (.lst (zs.map V.str))) (_:(1≤zs.length∧zs.length≤1000)) (_:0≤p) (_:0≤m) (_:m≤1000) (_:∀H' l (ws:List Str),au H H'→H l=none→H' l=some (.lst (ws.map V.str))→ws.length=m.toNat→(∀w∈ws,w∈zs)→Q (.ref l) H'):uH K vs H Q u3
inductive YT(vs:List V)(H:Hp)(Q:VK)(u3:XK):Prop
 |mk (a b:Addr) (is:List Int) (_:vs=[.ref a, .ref b]) (_:H a=some (.lst (is.map V.int))) (_:H b=some (.lst (is.map V.int))) (_:is.length≤10000) (_:Q (.bl true) H):YT vs H Q u3
end QF
namespace L2
open PySem PySem.Spec PyProof.Rows PySem.W PySem.Calls
section
variable{X:Cx}
theorem EI(K:Frag){T:String}{name:Str}{id:String}{r:V→List V→Hp→VK→Prop}{o:Expr}{apos dO:Pos}{to:TE}(pa:PlainAttrs T)(slot:Slot T name id)(Bl:typeOf (.builtin id)=pure (.type "method_descriptor"))(hm:MJ X id r)(ho:PE X o to)
  (mZ:attributeBase o name X.env (eval o X.env)=eval o X.env:=by rfl) (m3:(apos.endLine==dO.line)=true:=by rfl) (hK:X.K=K:=by rfl):PE X (.Call (.Attribute o name apos) [] [] dO) (KZ K T r to):=hK▸HH pa slot Bl hm ho mZ m3
end
end L2
namespace QF
open PySem L2
def OP(c:Nat):Bool:=decide (65≤c)&&decide (c≤90)
def conv(c:Nat):Nat:=if low c=true then c else if OP c=true then c+32 else 32
abbrev great:Str:=Str.ofString "ABCDEFGHIJKLMNOPQRSTUVWXYZ"
def rd(st:KWd.St)(cs:List Nat):KWd.St:=(cs.map conv).foldl KWd.step st
abbrev both:Str:=Str.ofString "abcdefghijklmnopqrstuvwxyzABCDEFGHIJKLMNOPQRSTUVWXYZ"
abbrev marks:Str:=Str.ofString " .,-'0123456789!?()[]{}@`_~/:;<=>#$&*+|^\\\""
end QF
namespace L2
open PySem PySem.Spec PyProof.Rows PySem.W PySem.Calls
section
variable{X:Cx}
def Rp(xs ys:List V)(f:Nat→Bool):Prop:=∀(j:Nat)(x y:V),xs[j]?=some x→ys[j]?=some y→(pO x=true∧pO y=true∧f j=vJ x y)∨(∃a,x= .ref a∧y= .ref a∧f j=true)
theorem Cw{A:Around}{s:Shared}{xs ys:List V}{its gD:List Value}{f:Nat→Bool}(r:Vals xs its)(r2:Vals ys gD)(h:Rp xs ys f):
  ∀j (h1:j<its.toArray.size) (h2:j<gD.toArray.size),SeqAt.EqAt A s its.toArray[j] gD.toArray[j] (f j):=fun j h1 h2=>by
 have F5:j<xs.length:=by have:=r.length;simp at h1;omega
 have F6:j<ys.length:=by have:=r2.length;simp at h2;omega
 obtain⟨a1,e1,q1⟩:=r.get (i:=j) (x:=xs[j]) (by simp[F5]);obtain⟨a2,e2,q2⟩:=r2.get (i:=j) (x:=ys[j]) (by simp[F6]);have g1:its.toArray[j]=a1:=by simpa[List.getElem?_eq_some_iff]using(Xd e1).2
 have g2:gD.toArray[j]=a2:=by simpa[List.getElem?_eq_some_iff]using(Xd e2).2
 rw[g1,g2];rcases h j xs[j] ys[j] (by simp[F5]) (by simp[F6])with⟨f1,f2,ef⟩|⟨a,ex,ey,ef⟩
 ·rw[ef];exact uj q1 q2 f1 f2
 ·rw[ef];rw[ex]at q1;rw[ey]at q2;cases q1;cases q2;exact SeqAt.EqAt.same _
inductive Lm(K:Frag)(x:V)(y:V)(H:Hp)(Q:VK):Prop
 |mk (p:_) (q:_) (xs:_) (ys:_) (f:_) (_:x= .ref p) (_:y= .ref q) (_:iF K H p xs) (_:iF K H q ys) (_:Rp xs ys f) (_:Q (.bl (decide (xs.length=ys.length)&&(List.range xs.length).all f)) H):Lm K x y H Q
theorem wt(K:Frag)(hu:X.A.units<cLine)(hK:X.K=K:=by rfl):qE X (compareOp .Eq) (Lm K):=by
 subst hK;intro pins s σ H x y v u Q I rx ry h;obtain⟨p,q,xs,ys,f,rfl,rfl,hp,hq,hf,k⟩:=h;cases rx;cases ry;obtain⟨its,r,pl,hz⟩:=I.list hp;obtain⟨gD,r2,Ln,O7⟩:=I.list hq;have l1:=r.length;have l2:=r2.length;obtain⟨⟨cls,dd,data,sl⟩,ho,hc,n,hd⟩:=id pl.isList;obtain⟨⟨Lo,F8,data2,XB⟩,AE,ur,n2,hd2⟩:=id Ln.isList;simp only at hc hd ur hd2;subst hc hd ur hd2;by_cases e:xs.length=ys.length
 ·have hsz:its.toArray.size=gD.toArray.size:=by rw[List.size_toArray,List.size_toArray];omega
  refine richCompare_meets_room (op:= .Eq) ⟨_,ho,rfl⟩ ⟨_,AE,rfl⟩ F.slot_list_eq F.entry_list_eq (F.args_list_eq_2 _ _) (SeqAt.list_eqAt p q its.toArray gD.toArray n n2 dd F8 sl XB hsz f) ⟨ho,AE,Cw r r2 hf,?_⟩ hu;rw[decide_eq_true e,Bool.true_and]at k;refine⟨(fun x=>nomatch x), .bl ((List.range xs.length).all f),H,I,?_,k⟩;rw[List.size_toArray,←l1];rfl
 ·have hsz:(its.toArray.size !=gD.toArray.size)=true:=by
   rw[List.size_toArray,List.size_toArray];simp;omega
  refine richCompare_meets_room (op:= .Eq) ⟨_,ho,rfl⟩ ⟨_,AE,rfl⟩ F.slot_list_eq F.entry_list_eq (F.args_list_eq_2 _ _) (SeqAt.list_eq_lengthsAt p q its.toArray gD.toArray n n2 dd F8 sl XB hsz) ⟨ho,AE,?_⟩ hu;rw[decide_eq_false e,Bool.false_and]at k;exact⟨(fun x=>nomatch x), .bl false,H,I,rfl,k⟩
end
section
variable{X:Cx}
end
end L2
namespace QF
open PySem L2
abbrev Pr:=Int×Int
def ke(p:Pr):List V:=[.int p.1, .int p.2]
def f'(H:Hp)(vs:List V)(ps:List Pr):Prop:=vs.length=ps.length∧∀(i:Nat)(p:Pr),ps[i]?=some p→∃t,vs[i]?=some (V.ref t)∧H t=some (.tup (ke p))
theorem f'.nil{H:Hp}:f' H [] []:=⟨rfl,fun i f e=>by simp at e⟩
theorem f'.cw{H H':Hp}{xs:List V}{fs:List Pr}(T:f' H xs fs)(k:eV H H'):f' H' xs fs:=⟨T.1,fun i f e=>let ⟨b,h1,h2⟩:=T.2 i f e;⟨b,h1,k _ _ h2⟩⟩
theorem f'.same{H H':Hp}{xs:List V}{fs:List Pr}(t:f' H xs fs)(s:au H H'):f' H' xs fs:=t.cw (eV.same s)
theorem f'.append{H:Hp}{xs ys:List V}{fs gs:List Pr}(T:f' H xs fs)(U:f' H ys gs):f' H (xs++ys) (fs++gs):=by
 refine⟨by simp[T.1,U.1],fun i p e=>?_⟩;by_cases h:i<fs.length
 ·rw[List.getElem?_append_left h]at e;obtain⟨b,h1,h2⟩:=T.2 i p e;exact⟨b,by rw[List.getElem?_append_left (by rw[T.1];exact h)];exact h1,h2⟩
 ·rw[List.getElem?_append_right Xs]at e;obtain⟨b,h1,h2⟩:=U.2 _ p e;exact⟨b,by rw[List.getElem?_append_right (by rw[T.1];omega),T.1];exact h1,h2⟩
theorem f'.one{H:Hp}{t:Addr}{p:Pr}(ht:H t=some (.tup (ke p))):f' H [.ref t] [p]:=by
 refine⟨rfl,fun i q e=>?_⟩
 match i,e with
 |0,e=>cases e;exact⟨t,rfl,ht⟩
 |i+1,e=>simp at e
theorem f'.snoc{H:Hp}{xs:List V}{fs:List Pr}{t:Addr}{f:Pr}(T:f' H xs fs)(ht:H t=some (.tup (ke f))):f' H (xs++[.ref t]) (fs++[f]):=T.append (.one ht)
def pr(ps:List Pr)(k:Nat):Pr:=ps.getD k (0,0)
theorem F9{ps:List Pr}{k:Nat}(h:k<ps.length):ps[k]?=some (pr ps k):=by
 simp[pr,h]
theorem f'.O8{H:Hp}{xs:List V}{ps:List Pr}(T:f' H xs ps){k:Nat}(h:k<ps.length):∃t,xs[k]?=some (V.ref t)∧H t=some (.tup [.int (pr ps k).1, .int (pr ps k).2]):=T.2 k _ (F9 h)
theorem EJ{ps:List Pr}{p:Pr}:pr (ps++[p]) ps.length=p:=by
 simp[pr,List.getD_eq_getElem?_getD]
structure Case where
 xs:List Str
 ys:List Str
 same:Int
 out:Int
 into:Int
 least:Int
 fs:List Form
structure jZ(H:Hp)(a:Addr)(c:Case)(f g m l:Addr)(vs:List V):Prop where
 ca:H a=some (.lst [.ref f, .ref g, .ref m, .ref l])
 fi:H f=some (.lst (c.xs.map V.str))
 se:H g=some (.lst (c.ys.map V.str))
 nu:H m=some (.lst [.int c.same, .int c.out, .int c.into, .int c.least])
 ne:H l=some (.lst vs)
 tr:cV H vs c.fs
theorem jZ.keep{H H':Hp}{a:Addr}{c:Case}{f g m l:Addr}{vs:List V}(C:jZ H a c f g m l vs)(s:au H H'):jZ H' a c f g m l vs:=⟨s _ _ C.ca,s _ _ C.fi,s _ _ C.se,s _ _ C.nu,s _ _ C.ne,C.tr.same s⟩
structure gO(most:Nat)(c:Case):Prop where
 x:c.xs.length≤most
 y:c.ys.length≤most
 good:br c.fs=true
 same:1≤c.same∧c.same≤999999
 out:0≤c.out∧c.out≤999999
 into:0≤c.into∧c.into≤999999
 least:1≤c.least∧c.least≤999999
def wd(xs:List Str)(i:Int):Option Str:=if 0≤i then xs[i.toNat]? else none
theorem qQ{xs:List Str}{i:Nat}:wd xs (i:Int)=xs[i]?:=by simp[wd]
theorem Ye{xs:List Str}{i:Int}{x:Str}(h:wd xs i=some x):0≤i∧i<(xs.length:Int):=by
 unfold wd at h;split at h
 ·have:=(Xd h).1;omega
 ·cases h
def Case.pw(c:Case)(p:Pr):Option Int:=(wd c.xs p.1).bind fun x=>(wd c.ys p.2).bind fun y=>du c.same c.fs x y
theorem Case.pw_of{c:Case}{p:Pr}{x y:Str}(h1:wd c.xs p.1=some x)(h2:wd c.ys p.2=some y):c.pw p=du c.same c.fs x y:=by simp[Case.pw,h1,h2]
theorem Case.pw_in{c:Case}{p:Pr}{w:Int}(h:c.pw p=some w):(0≤p.1∧p.1<(c.xs.length:Int))∧(0≤p.2∧p.2<(c.ys.length:Int)):=by
 unfold Case.pw at h;cases e1:wd c.xs p.1 with
 |none=>rw[e1]at h;cases h
 |some x=>
  cases e2:wd c.ys p.2 with
  |none=>rw[e1,e2]at h;cases h
  |some y=>exact⟨Ye e1,Ye e2⟩
theorem Case.pw_out{c:Case}{p:Pr}(h:¬((0≤p.1∧p.1<(c.xs.length:Int))∧(0≤p.2∧p.2<(c.ys.length:Int)))):c.pw p=none:=by
 cases e:c.pw p with
 |none=>rfl
 |some w=>exact absurd (c.pw_in e) h
def wu(H:Hp)(CT t:Addr)(c:Case):Prop:=∃n dx l d vs,jF H CT t n c.fs dx l d vs∧n.same=c.same∧n.out=c.out∧n.into=c.into∧n.least=c.least
theorem wu.keep{H H':Hp}{CT t:Addr}{c:Case}(T:wu H CT t c)(s:au H H'):wu H' CT t c:=by
 obtain⟨n,dx,l,d,vs,T,r⟩:=T;exact⟨n,dx,l,d,vs,T.same s,r⟩
inductive oP(C:Addr)(vs:List V)(H:Hp)(Q:VK)(u3:XK):Prop
 |mk (a:Addr) (c:Case) (f g m l:Addr) (us:List V) (most:Nat) (_:vs=[.ref a]) (_:jZ H a c f g m l us) (_:gO most c) (_:∀H' t,au H H'→wu H' C t c→Q (.ref t) H'):oP C vs H Q u3
inductive oQ(vs:List V)(H:Hp)(Q:VK)(u3:XK):Prop
 |mk (a:Addr) (us:List V) (ps:List Pr) (_:vs=[.ref a]) (_:H a=some (.lst us)) (_:f' H us ps) (_:Q (.bl true) H):oQ vs H Q u3
end QF
namespace L2
open PySem PySem.Spec PyProof.Rows PySem.W PySem.Calls
section
variable{pg:Program}{wd:World}{Ar:Around}{Rs:Result→Shared→Prop}{it:Addr}{fp wr:List Addr}{n:Nat}{Pv:Nat→Value→Prop}{Sv:Nat→Heap→Prop}
def uI:(toString "max"++toString ".loop":String)="max.loop":=Xy
theorem AF(Wk:Walks pg wd Ar.in1 it fp wr n Pv Sv)(bt:Nat→Nat→Bool)(cmp:CmpOf pg wd Ar.in1 .Gt Pv bt)(B:Addr)(nb:B∉fp)(dv:Value):
  ∀(k j:Nat)(st:Shared)(old:List Value)(c:Nat),n-j=k→j≤n→Sv j st.heap→((j=0∧old=[])∨∃vb,0<j∧old=[vb,vb]∧Pv (argBest bt (j-1)) vb)→
  st.heap.get? B=some {cls:= .type "list",dict:=none,data:= .seq old.toArray c,slots:=#[]}→
  (∀v h' tk,((n=0∧v=dv)∨(0<n∧Pv (argBest bt (n-1)) v))→(∀b o,b∉wr→b≠B→st.heap.get? b=some o→h'.get? b=some o)→Rs (.ok (.ret v)) {st with heap:=h',toks:=tk})→
  codeAny (model pg wd) Ar (.builtin "max.loop" ⟨[.ref it, .none, .ref B],[("default",dv)]⟩) Rs st:=by
 have nw:B∉wr:=fun z=>nb (Wk.sub _ z)
 intro k
 induction k with
 |zero=>
  intro j st old c ek lj sv ol eB fin;have ej:j=n:=by lia
  subst ej;refine codeAny_builtin F.entry_max_loop ?_;rw[Around.under_plainId F.plain_max_loop _];show wpAny _ Ar.in1 (seqItems? (.ref B)>>=_) _ _ st;refine wpAny_bind (wpAny_seqItems eB rfl ?_);show wpAny _ Ar.in1 (tryCatch (pyNext (.ref it)) _>>=_) _ _ st;refine wpAny_bind (wpAny_tryCatch (Wk.done st _ _ sv fun h' tk kp=>?_));rcases ol with⟨z0,rfl⟩|⟨vb,z0,rfl,pb⟩
  ·refine wpAny_bind (wpAny_rule (wpAny_pure ?_));exact fin dv _ tk (.inl ⟨z0,rfl⟩) fun b o hb _ e=>kp b o hb e
  ·have HZ:=kp B _ nw eB;show wpAny _ Ar.in1 (updateSeq B (fun _=>#[])>>=_) _ _ _;refine wpAny_bind ?_;refine wpAny_updateSeq HZ rfl (wpAny_bind (wpAny_letGo (wpAny_pure ?_)));exact fin vb _ tk (.inr ⟨z0,pb⟩) fun b o hb hB e=>(Heap.get?_update_other _ _ (Ne.symm hB)).trans (kp b o hb e)
 |succ k ih=>
  intro j st old c ek lj sv ol eB fin;have lt:j<n:=by lia
  refine codeAny_builtin F.entry_max_loop ?_;rw[Around.under_plainId F.plain_max_loop _];show wpAny _ Ar.in1 (seqItems? (.ref B)>>=_) _ _ st;refine wpAny_bind (wpAny_seqItems eB rfl ?_);show wpAny _ Ar.in1 (tryCatch (pyNext (.ref it)) _>>=_) _ _ st;refine wpAny_bind (wpAny_tryCatch (Wk.item j st _ _ lt sv fun v h' tk pv O9 kp=>?_));have HZ:=kp B _ nw eB;have up:∀(g:Array Value→Array Value)(b:Addr),b∈fp→∀o,h'.get? b=some o→(h'.update B (Obj.mapSeq g)).get? b=some o:=fun g b hb o e=>(Heap.get?_update_other _ _ (fun z:B=b=>nb (by rw[z];exact hb))).trans e
  rcases ol with⟨rfl,rfl⟩|⟨vb,z0,rfl,pb⟩
  ·show wpAny _ Ar.in1 (updateSeq B (fun _=>#[v,v])>>=_) _ _ _;refine wpAny_bind ?_;refine wpAny_updateSeq HZ rfl ?_;rw[uI];refine wpAny_pure ⟨plainId_quiet F.plain_max_loop _,ih 1 _ [v,v] _ (by lia) lt (Wk.frame _ _ _ O9 (up _)) (.inr ⟨v,Xy,rfl,pv⟩) (Heap.get?_update_self _ HZ rfl) fun v' h2 Lp pf Lq=>?_⟩;exact fin v' h2 Lp pf fun b o hb hB e=>Lq b o hb hB ((Heap.get?_update_other _ _ (Ne.symm hB)).trans (kp b o hb e))
  ·obtain⟨i,rfl⟩:∃i,j=i+1:=⟨j-1,by lia⟩
   have pb:Pv (argBest bt i) vb:=pb;show wpAny _ Ar.in1 (tryCatch (holding [v,v] (richCompare .Gt v vb>>=_)) _>>=_) _ _ _;refine wpAny_bind (wpAny_tryCatch (wpAny_holding (wpAny_bind (cmp (i+1) (argBest bt i) v vb _ _ _ pv pb ?_))));refine wpAny_bind (wpAny_holding (wpAny_truthy_bool ?_));refine wpAny_bind (wpAny_letGo (wpAny_pure ?_));cases hb:bt (i+1) (argBest bt i)with
   |true=>
    simp only[if_true];refine wpAny_bind ?_;refine wpAny_updateSeq HZ rfl (wpAny_bind (wpAny_letGo ?_));rw[uI];refine wpAny_pure ⟨plainId_quiet F.plain_max_loop _,ih (i+2) _ [v,v] _ (by lia) lt (Wk.frame _ _ _ O9 (up _)) (.inr ⟨v,by lia,rfl,?_⟩) (Heap.get?_update_self _ HZ rfl) fun v' h2 Lp pf Lq=>?_⟩
    ·show Pv (argBest bt (i+1)) v;simp only[argBest,hb,if_true];exact pv
    ·exact fin v' h2 Lp pf fun b o hb hB e=>Lq b o hb hB ((Heap.get?_update_other _ _ (Ne.symm hB)).trans (kp b o hb e))
   |false=>
    simp only[Bool.false_eq_true,if_false];refine wpAny_bind (wpAny_letGo ?_);rw[uI];refine wpAny_pure ⟨plainId_quiet F.plain_max_loop _,ih (i+2) _ [vb,vb] c (by lia) lt O9 (.inr ⟨vb,by lia,rfl,?_⟩) HZ fun v' h2 Lp pf Lq=>?_⟩
    ·show Pv (argBest bt (i+1)) vb;simp only[argBest,hb,Bool.false_eq_true,if_false];exact pb
    ·exact fin v' h2 Lp pf fun b o hb hB e=>Lq b o hb hB (kp b o hb e)
theorem AG(a d:Value):argsOk "max" ⟨[a],[("default",d)]⟩:=by unfold argsOk;kernel_rfl
end
section
variable{X:Cx}
def H_:Option Int→V
 |none=> .cD
 |some i=> .int i
theorem Zl{is:List Int}{us:List Value}(r:Vals (is.map V.int) us):us.length=is.length∧∀(j:Nat)(v:Value),us[j]?=some v→∃t,v= .int (is.getD j 0) t:=by
 have hl:=r.length;rw[List.length_map]at hl;refine⟨hl.symm,fun j v e=>?_⟩;have hj:j<is.length:=by have:=(Xd e).1;omega
 obtain⟨u,eu,ru⟩:=r.get (i:=j) (x:= .int is[j]) (by simp[hj]);rw[e]at eu;cases eu;obtain⟨t,rfl⟩:=ru;exact⟨t,by simp[hj]⟩
theorem Ia{is:List Int}{k:Nat}(hk:k<is.length)(h:∀j,j<is.length→is.getD j 0≤is.getD k 0):is.max?=some (is.getD k 0):=by
 rw[List.max?_eq_some_iff];refine⟨by simp[hk],fun b hb=>?_⟩;obtain⟨j,hj,rfl⟩:=List.mem_iff_getElem.mp hb;have:=h j hj;simpa[hj]using this
theorem AH(hc:X.calm=true){pins:List (Addr×Obj)}{s:Shared}{σ:St}{H:Hp}{a:Addr}{is:List Int}{Q:VK}(I:Inv X pins σ H s)(hq:iF X.K H a (is.map V.int))(q:Q (H_ is.max?) H):
  wpAny (model X.prog X.w) X.A (call (.builtin "max") [.ref a] [("default", .none)]) (EP X pins σ Q) X.xe s:=by
 obtain⟨its,rv,p,hz⟩:=I.list hq;obtain⟨hl,hv⟩:=Zl rv;refine wpAny_call (codeAny_call_builtin F.plain_max F.entry_max ?_);simp only[checkBuiltinCall,F.kind_max];have body:wpAny (model X.prog X.w) X.A.in1 (Builtin.«max» ⟨[.ref a],[("default", .none)]⟩) (fun fin s'=>match fin with
   | .done f=>(match (Except.ok f:Result)with| .ok (.ret v)=>EP X pins σ Q v s'| .ok _=>False| .error e=>X.xe e s')
   | .again c'=>c'.quiet=true∧codeAny (model X.prog X.w) X.A c' (fun r s'=>match r with| .ok (.ret v)=>EP X pins σ Q v s'| .ok _=>False| .error e=>X.xe e s') s') X.xe s:=by
  show wpAny _ X.A.in1 (Builtin.Builtins.bindParams "max" ["key","default"] 0 ⟨[],[("default", .none)]⟩>>=_) _ _ s;refine wpAny_bind (wpAny_of_eq (show Builtin.Builtins.bindParams "max" ["key","default"] 0 ⟨[],[("default", .none)]⟩=pure [none,some .none]from rfl) ?_);refine wpAny_bind (wpAny_pure (wpAny_bind (wpAny_pyIter_list p.isList ?_)));have fj:a≠s.heap.objs.size:=by
   obtain⟨o,n,e,_⟩:=p;exact Nat.ne_of_lt (Heap.lt_size e)
  refine wpAny_bind (wpAny_newObj_type ?_);rw[uI];have eS:(s.heap.push {cls:= .type "list_iterator",data:= .fields #[.ref a, .int 0 0]}).objs.size=s.heap.objs.size+1:=by simp[Heap.push]
  have Wk:=Walks.list (prog:=X.prog) (w:=X.w) (A:=X.A.in1) (show X.A.in1.handled=none from I.ok.hd hc) s.heap.objs.size a fj its.toArray;refine wpAny_pure ⟨plainId_quiet F.plain_max_loop _,AF (pg:=X.prog) (wd:=X.w) Wk _ (CmpOf.ints_gt (fun j=>is.getD j 0) fun j v e=>hv j v (by simpa using e)) (s.heap.push {cls:= .type "list_iterator",data:= .fields #[.ref a, .int 0 0]}).objs.size ?_ .none _ 0 _ [] 0 rfl (Nat.zero_le _) ?_ (.inl ⟨rfl,rfl⟩) ?_ fun v h' tk pf kp=>?_⟩
  ·intro z;simp only[List.mem_cons,List.not_mem_nil,or_false]at z;rw[eS]at z;rcases z with z|z
   ·exact Nat.succ_ne_self _ z
   ·obtain⟨o,n,e,_⟩:=p;have lt:=Heap.lt_size e;rw[←z]at lt;exact Nat.lt_irrefl _ (Nat.lt_of_succ_lt lt)
  ·exact⟨⟨_,Xl (Heap.get?_push_size _ rfl),rfl,rfl⟩,p.isList.at fun o e=>Xl (Xl e)⟩
  ·exact Heap.get?_push_size _ rfl
  ·have keep:∀b o,s.heap.get? b=some o→h'.get? b=some o:=fun b o e=>by
    have lt:=Heap.lt_size e;refine kp b o (fun z=>?_) (fun z=>?_) (Xl (Xl e))
    ·have z:b=s.heap.objs.size:=by simpa using z
     rw[z]at lt;exact Nat.lt_irrefl _ lt
    ·rw[z,eS]at lt;exact Nat.lt_irrefl _ (Nat.lt_of_succ_lt lt)
   have sz:its.toArray.size=is.length:=by simp[hl]
   rcases pf with⟨h0,rfl⟩|⟨h0,pf⟩
   ·have:is=[]:=List.length_eq_zero_iff.mp Xs;subst this;exact⟨.cD,H,I.kept (t':=tk) keep,rfl,q⟩
   ·rw[List.getElem?_toArray]at pf;obtain⟨t,rfl⟩:=hv _ v pf;obtain⟨b1,b2⟩:=argBest_gt (fun j=>is.getD j 0) (its.toArray.size-1);have em:=Ia (is:=is) (k:=argBest (fun i j=>decide (is.getD i 0>is.getD j 0)) (its.toArray.size-1)) (Xx) fun j hj=>b2 j Xs
    rw[em]at q;exact⟨.int _,H,I.kept (t':=tk) keep,⟨t,rfl⟩,q⟩
 cases O_:Manifest.signature? "max" with
 |none=>exact wpAny_pure body
 |some sig=>
  have ha:=AG (.ref a) .none;simp only[argsOk,O_]at ha;have h2:Bind.checkArgs "max" sig ⟨[.ref a],[("default", .none)]⟩=pure ():=ha;show wpAny _ X.A.in1 (Bind.checkArgs "max" sig ⟨[.ref a],[("default", .none)]⟩) _ _ s;rw[h2];exact wpAny_pure body
def Lr(K:Frag)(ta:TE):TE:=fun σ H Q=>ta σ H fun x H1=>∃(a:Addr)(is:List Int),x= .ref a∧iF K H1 a (is.map V.int)∧Q (H_ is.max?) H1
theorem EK(K:Frag){e:Expr}{ta:TE}{p pos kp cp:Pos}{j:Nat}(hc:X.calm=true)(hg:Gl X "max")(hm:X.mg "max"=none)(he:PE X e ta)(hs:starEach [e] X.env=[(false,eval e X.env)]:=by rfl)(hK:X.K=K:=by rfl):
  PE X (.Call (.Name "max" p) [e] [⟨some "default", .Constant .none j cp,kp⟩] pos) (Lr K ta):=by
 subst hK;intro pins s σ H Q I h;refine wpAny_Call_Name_kw (kg I hg hm (PyProof.Rows.Boot.«max») ?_ (Xy) (Xy));rw[hs];refine callWith_builtin_kwB (first:=[]) rfl rfl (evalArgs_kwB rfl ?_);refine Calls.spliced_cons ?_;show wpAny _ _ (eval e X.env) _ _ s;refine cj (he pins s σ H _ I h) fun v s1 ⟨x,H1,I1,r1,q1⟩=>Calls.spliced_nil ?_
 obtain⟨a,is,rfl,hq,q⟩:=q1;cases r1;refine kws_cons ?_;refine Constant_none ?_;refine kws_nil ?_;exact AH hc I1 hq q
def sk:List V→List V→Bool
 |[],[]=>true
 |x::xs,y::ys=>vJ x y&&sk xs ys
 | _,_=>false
theorem l':∀(xs ys:List V),((List.range (min xs.length ys.length)).all (fun j=>vJ (xs.getD j .cD) (ys.getD j .cD))&&xs.length==ys.length)=sk xs ys
 |[],[]=>rfl
 |[],y::ys=>by simp[sk]
 |x::xs,[]=>by simp[sk]
 |x::xs,y::ys=>by
  have ih:=l' xs ys;simp only[sk];rw[←ih];have e:min (x::xs).length (y::ys).length=min xs.length ys.length+1:=by simp[Nat.succ_min_succ]
  rw[e,List.range_succ_eq_map,List.all_cons,List.all_map];simp only[List.getD_cons_zero,Function.comp_def,List.getD_cons_succ,List.length_cons,Bool.and_assoc]
  congr 2
  simp
theorem wz{A:Around}{s:Shared}{xs ys:List V}{its gD:List Value}(r:Vals xs its)(r2:Vals ys gD)(f1:xs.all pO=true)(f2:ys.all pO=true):
  ∀j (h1:j<its.toArray.size) (h2:j<gD.toArray.size),SeqAt.EqAt A s its.toArray[j] gD.toArray[j] ((fun j=>vJ (xs.getD j .cD) (ys.getD j .cD)) j):=by
 refine Cw r r2 fun j x y hx hy=> .inl ⟨List.all_eq_true.mp f1 x (Xi hx),List.all_eq_true.mp f2 y (Xi hy),?_⟩
 simp[List.getD_eq_getElem?_getD,hx,hy]
open Classical in
end
theorem tP{K:Frag}{a:Addr}{xs:List V}{ls:List Str}{js:List Nat}{g:TG}{tt:TT}{te:TE}{σ:St}{H1:Hp}{D:Addr}{Q:VK}(Pv:Nat→List V→St→Hp→Prop)
  (h0:Pv 0 [] (kq ls js σ) (upd H1 D (.lst []))) (hl:∀i ys σ H,i≤xs.length→Pv i ys σ H→iF K H a xs)
  (hs:∀i x T ys σ H,xs[i]?=some x→Pv i ys σ H→H T=none→g (.ref T) σ (upd H T (.tup [.int i,x])) fun fq H3=>tt fq H3 fun b H4=>if b=true then te fq H4 fun y H5=>H5 D=some (.lst ys)∧ys.length<sizeLine∧Pv (i+1) (ys++[y]) fq (upd H5 D (.lst (ys++[y])))else Pv (i+1) ys fq H4)
  (hd:∀ys σ H,Pv xs.length ys σ H→Q (.ref D) H):
  qL (JN K a) ls js g tt te σ H1 D Q:=
 m9 (n:=xs.length) Pv h0 (fun i ys σ H hi p=>⟨xs,xs[i],hl i ys σ H (Nat.le_of_lt hi) p,by simp[hi]⟩) (fun ys σ H p=>⟨xs,hl _ ys σ H (Nat.le_refl _) p,Nat.le_refl _⟩)
  (fun i ys σ H x H2 hi p y=>by
   obtain⟨T,z,rfl,hT,rfl,hy⟩:=y;exact hs i z T ys σ H (hy xs (hl i ys σ H (Nat.le_of_lt hi) p)) p hT) hd
end L2
namespace QF
open PySem L2
def fm(S:Int→Prop):Option Int→Prop
 |none=>∀v,¬S v
 |some m=>S m∧∀v,S v→v≤m
theorem fm.iff{S T:Int→Prop}{a:Option Int}(ha:fm S a)(h:∀v,S v↔T v):fm T a:=by
 cases a with
 |none=>exact fun v hv=>ha v ((h v).mpr hv)
 |some m=>exact⟨(h m).mp ha.1,fun v hv=>ha.2 v ((h v).mpr hv)⟩
def bq:Option Int→Int→Option Int
 |none,_=>none
 |some v,p=>some (v-p)
theorem fm.less{S:Int→Prop}{a:Option Int}(ha:fm S a)(p:Int):fm (fun v=>∃u,S u∧v=u-p) (bq a p):=by
 cases a with
 |none=>exact fun v ⟨u,hu,_⟩=>ha u hu
 |some m=>
  refine⟨⟨m,ha.1,rfl⟩,?_⟩;rintro v ⟨u,hu,rfl⟩;have:=ha.2 u hu;omega
def ni(l:List (Option Int)):Option Int:=(l.filterMap id).max?
theorem jG(l:List (Option Int)):fm (fun v=>some v∈l) (ni l):=by
 have key:∀v,v∈l.filterMap id↔some v∈l:=fun v=>by
  rw[List.mem_filterMap];exact⟨fun⟨o,ho,eo⟩=>by have eo:o=some v:=eo;rw[eo]at ho;exact ho,fun h=>⟨some v,h,rfl⟩⟩
 unfold ni;cases e:(l.filterMap id).max? with
 |none=>
  rw[List.max?_eq_none_iff]at e;intro v hv;have:=(key v).mpr hv;rw[e]at this;cases this
 |some m=>
  rw[List.max?_eq_some_iff]at e;exact⟨(key m).mp e.1,fun v hv=>e.2 v ((key v).mpr hv)⟩
theorem fm.Rq{S T:Int→Prop}{a:Option Int}(ha:fm S a)(h1:∀v,S v→T v)(h2:∀v,T v→∃u,S u∧v≤u):fm T a:=by
 cases a with
 |none=>
  intro v hv;obtain⟨u,hu,_⟩:=h2 v hv;exact ha u hu
 |some m=>
  refine⟨h1 m ha.1,fun v hv=>?_⟩;obtain⟨u,hu,hle⟩:=h2 v hv;have:=ha.2 u hu;omega
theorem wA{S1 S2 S3:Int→Prop}{a b c:Option Int}(h1:fm S1 a)(h2:fm S2 b)(h3:fm S3 c):fm (fun v=>S1 v∨S2 v∨S3 v) (ni [a,b,c]):=by
 refine(jG [a,b,c]).Rq (fun v hv=>?_) (fun v hv=>?_)
 ·simp only[List.mem_cons,List.not_mem_nil,or_false]at hv;rcases hv with e|e|e
  ·rw[←e]at h1;exact .inl h1.1
  ·rw[←e]at h2;exact .inr (.inl h2.1)
  ·rw[←e]at h3;exact .inr (.inr h3.1)
 ·have one:∀{S:Int→Prop}{o:Option Int},fm S o→S v→o∈[a,b,c]→∃u,some u∈[a,b,c]∧v≤u:=fun{S o} hm hs ho=>by
   cases o with
   |none=>exact absurd hs (hm v)
   |some m=>exact⟨m,ho,hm.2 v hs⟩
  rcases hv with hs|hs|hs
  ·exact one h1 hs Xr
  ·exact one h2 hs Xr
  ·exact one h3 hs Xr
def Y3(ps:List Pr):Pr:=pr ps (ps.length-1)
def Ib(c:Case)(shut:List Pr)(p:Pr):Option Int:=if p∈shut then none else c.pw p
theorem Zv{ps:List Pr}{p:Pr}:Y3 (ps++[p])=p:=by
 unfold Y3;rw[List.length_append];exact EJ
def EL:Option Int→Option Int→Option Int
 |none,_=>none
 |some w,none=>some w
 |some w,some b=>if b<0 then some w else some (w+b)
def Bq(f:Nat→Nat→Option Int)(o p:Int):Nat→Nat→Option Int
 |0,_=>none
 | _+1,0=>none
 |i+1,j+1=>ni [EL (f i j) (Bq f o p i j),bq (Bq f o p i (j+1)) o,bq (Bq f o p (i+1) j) p]
termination_by i j=>(i,j)
def cW(f:Nat→Nat→Option Int)(o p:Int)(i j:Nat):Option Int:=EL (f i j) (Bq f o p i j)
def j1(c:Case)(shut:List Pr)(i j:Nat):Option Int:=Ib c shut ((i:Int),(j:Int))
theorem EM(o:Option Int):H_ o=bD o:=by cases o<;>rfl
def fC(H:Hp)(vs:List V)(L:List (List Pr)):Prop:=vs.length=L.length∧∀(k:Nat)(ps:List Pr),L[k]?=some ps→∃a us,vs[k]?=some (V.ref a)∧H a=some (.lst us)∧f' H us ps
def Ls(l:Addr)(vs:List V):Prop:=∀k:Nat,vs[k]?≠some (V.ref l)
theorem fC.nil{H:Hp}:fC H [] []:=⟨rfl,fun k ps e=>by simp at e⟩
theorem fC.same{H H':Hp}{vs:List V}{L:List (List Pr)}(w:fC H vs L)(s:au H H'):fC H' vs L:=⟨w.1,fun k ps e=>let ⟨a,us,h1,h2,h3⟩:=w.2 k ps e;⟨a,us,h1,s _ _ h2,h3.same s⟩⟩
theorem fC.put{H:Hp}{vs:List V}{L:List (List Pr)}{l:Addr}{zs:List V}{o:HO}(w:fC H vs L)(n:Ls l vs)(h:H l=some (.lst zs)):fC (upd H l o) vs L:=⟨w.1,fun k ps e=>by
 obtain⟨a,us,h1,h2,h3⟩:=w.2 k ps e;refine⟨a,us,h1,?_,h3.cw (eV.lst h)⟩;rw[af (fun z=>n k (by rw[h1,z]))];exact h2⟩
theorem fC.append{H:Hp}{vs ws:List V}{L M:List (List Pr)}(a:fC H vs L)(b:fC H ws M):fC H (vs++ws) (L++M):=by
 refine⟨by simp[a.1,b.1],fun i p e=>?_⟩;by_cases h:i<L.length
 ·rw[List.getElem?_append_left h]at e;obtain⟨x,us,h1,h2⟩:=a.2 i p e;exact⟨x,us,by rw[List.getElem?_append_left (by rw[a.1];exact h)];exact h1,h2⟩
 ·rw[List.getElem?_append_right Xs]at e;obtain⟨x,us,h1,h2⟩:=b.2 _ p e;exact⟨x,us,by rw[List.getElem?_append_right (by rw[a.1];omega),a.1];exact h1,h2⟩
theorem fC.one{H:Hp}{a:Addr}{us:List V}{ps:List Pr}(h:H a=some (.lst us))(P:f' H us ps):fC H [.ref a] [ps]:=by
 refine⟨rfl,fun i q e=>?_⟩
 match i,e with
 |0,e=>cases e;exact⟨a,us,rfl,h,P⟩
 |i+1,e=>simp at e
def cN(m:Nat)(f:Nat→Option Int):List V:=(List.range m).map fun j=>bD (f j)
theorem cO(m:Nat)(f:Nat→Option Int):(cN m f).length=m:=by simp[cN]
theorem cP{m j:Nat}{f:Nat→Option Int}(h:j<m):(cN m f)[j]?=some (bD (f j)):=by simp[cN,h]
theorem oR(m:Nat)(f:Nat→Option Int):cN (m+1) f=cN m f++[bD (f m)]:=by simp[cN,List.range_succ]
structure il(H:Hp)(as:List Addr)(f:Nat→Nat→Option Int)(n m:Nat):Prop where
 len:as.length=n
 row:∀(i:Nat)(a:Addr),as[i]?=some a→H a=some (.lst (cN m (f i)))
theorem il.same{H H':Hp}{as:List Addr}{f:Nat→Nat→Option Int}{n m:Nat}(t:il H as f n m)(s:au H H'):il H' as f n m:=⟨t.len,fun i a e=>s _ _ (t.row i a e)⟩
theorem il.at{H:Hp}{as:List Addr}{f:Nat→Nat→Option Int}{n m i:Nat}(t:il H as f n m)(h:i<n):∃a,as[i]?=some a∧(as.map V.ref)[i]?=some (.ref a)∧H a=some (.lst (cN m (f i))):=by
 have hi:i<as.length:=by rw[t.len];exact h
 refine⟨as[i],by simp[hi],by simp[hi],t.row i _ (by simp[hi])⟩
def Tab(H H':Hp)(e:Addr)(f:Nat→Nat→Option Int)(n m:Nat):Prop:=∃as:List Addr,H' e=some (.lst (as.map V.ref))∧H e=none∧il H' as f n m∧∀a∈as,H a=none
structure Yu(K:W.Frag)(C:Addr):Prop where
 cl:ua K C
 out:bN K C "out"
 into:bN K C "into"
 jH:bN K C "ending"
 iK:bN K C "brought"
def fZ(o p:Int)(e b:Addr):List (Str×V):=[("out", .int o),("into", .int p),("ending", .ref e),("brought", .ref b)]
theorem F_(o p:Int)(e b:Addr):(fZ o p e b).lookup ("out":Str)=some (V.int o):=by kernel_rfl
theorem Cy(o p:Int)(e b:Addr):(fZ o p e b).lookup ("into":Str)=some (V.int p):=by kernel_rfl
theorem gF(o p:Int)(e b:Addr):(fZ o p e b).lookup ("ending":Str)=some (V.ref e):=by kernel_rfl
theorem gc(o p:Int)(e b:Addr):(fZ o p e b).lookup ("brought":Str)=some (V.ref b):=by kernel_rfl
theorem Cz(o p:Int)(e b:Addr):(fZ o p e b).lookup ("brought_behind":Str)=none:=by kernel_rfl
theorem Lu(o p:Int)(e b:Addr):bf "brought" (.ref b) (bf "ending" (.ref e) (bf "into" (.int p) (bf "out" (.int o) [])))=fZ o p e b:=by kernel_rfl
def p7(f g:Nat→Option Int)(o p:Int):Nat→Option Int
 |0=>none
 |j+1=>ni [f j,bq (g (j+1)) o,bq (p7 f g o p j) p]
theorem Yb(f:Nat→Nat→Option Int)(o p:Int)(i:Nat):∀j,p7 (cW f o p i) (Bq f o p i) o p j=Bq f o p (i+1) j
 |0=>by unfold p7 Bq;rfl
 |j+1=>by
  rw[p7,Bq,Yb f o p i j];rfl
theorem gW(f:Nat→Nat→Option Int)(o p:Int)(j:Nat):Bq f o p 0 j=none:=by unfold Bq;rfl
inductive ky(vs:List V)(H:Hp)(Q:VK)(u3:XK):Prop
 |mk (a:Addr) (os:List (Option Int)) (_:vs=[.ref a]) (_:H a=some (.lst (os.map bD))) (_:os.length≤1000) (_:∀H',au H H'→Q (bD (ni os)) H'):ky vs H Q u3
inductive uJ(vs:List V)(H:Hp)(Q:VK)(u3:XK):Prop
 |mk (o:Option Int) (p:Int) (_:vs=[bD o, .int p]) (_:Q (bD (bq o p)) H):uJ vs H Q u3
inductive YS(vs:List V)(H:Hp)(Q:VK)(u3:XK):Prop
 |mk (w b:Option Int) (_:vs=[bD w,bD b]) (_:Q (bD (EL w b)) H):YS vs H Q u3
inductive oS(C:Addr)(vs:List V)(H:Hp)(Q:VK)(u3:XK):Prop
 |mk (x e a dx te tb:Addr) (o p:Int) (m:Nat) (f g:Nat→Option Int) (_:vs=[.ref x, .ref e, .ref a]) (_:H x=some (.ins C dx (fZ o p te tb))) (_:H e=some (.lst (cN m f))) (_:H a=some (.lst (cN (m+1) g))) (_:m≤1000) (_:∀H' r,au H H'→H r=none→H' r=some (.lst (cN (m+1) (p7 f g o p)))→Q (.ref r) H'):oS C vs H Q u3
def CA(H:Hp)(v:V)(shut:List Pr):Prop:=(v= .cD∧shut=[])∨∃l us,v= .ref l∧H l=some (.lst us)∧f' H us shut
def aZ(p:Pr):List Key:=[.inl p.1, .inl p.2]
def Y8(kvs:List (List Key×V))(shut:List Pr):Prop:=∀p:Pr,(bj kvs (aZ p)).isSome=decide (p∈shut)
inductive uK(vs:List V)(H:Hp)(Q:VK)(u3:XK):Prop
 |mk (v:V) (shut:List Pr) (_:vs=[v]) (_:CA H v shut) (_:shut.length≤1000) (_:∀H' d kvs,au H H'→H' d=some (.dT kvs)→Y8 kvs shut→Q (.ref d) H'):uK vs H Q u3
theorem f'.last{H:Hp}{xs:List V}{ps:List Pr}(P:f' H xs ps)(fj:ps≠[]):∃t,si xs (-1)=some (.ref t)∧H t=some (.tup [.int (Y3 ps).1, .int (Y3 ps).2]):=by
 have hp:0<ps.length:=List.length_pos_iff.mpr fj;have hl:=P.1;obtain⟨t,h1,h2⟩:=P.O8 (k:=ps.length-1) (by lia);refine⟨t,?_,h2⟩;have e:xs=xs.take (ps.length-1)++[V.ref t]:=by
  apply List.ext_getElem?;intro n;by_cases hn:n<ps.length-1
  ·rw[List.getElem?_append_left (by rw[List.length_take];lia),List.getElem?_take,Xo hn]
  ·rw[List.getElem?_append_right (by rw[List.length_take];lia),List.length_take];by_cases sg:n=ps.length-1
   ·subst sg;rw[h1];have:ps.length-1-min (ps.length-1) xs.length=0:=by lia
    rw[this];rfl
   ·rw[List.getElem?_eq_none Xv,List.getElem?_eq_none (by simp;lia)]
 rw[e];exact wc _ _
theorem Yl(p q:Pr):sk (ke p) (ke q)=decide (p=q):=by
 simp only[ke,sk,vJ,Bool.and_true];rw[Bool.eq_iff_iff];simp[Prod.ext_iff]
theorem CB{m j:Nat}{f:Nat→Option Int}{u:Option Int}:(cN m f).set j (bD u)=cN m (fun k=>if k=j then u else f k):=by
 apply List.ext_getElem?;intro k;by_cases hk:k<m
 ·rw[cP hk];by_cases e:j=k
  ·subst e;rw[List.getElem?_set_self (by rw[cO];exact hk)];simp
  ·rw[List.getElem?_set_ne e,cP hk];have:¬k=j:=fun z=>e z.symm
   simp[this]
 ·rw[List.getElem?_eq_none (by rw[List.length_set,cO];omega),List.getElem?_eq_none (by rw[cO];omega)]
end QF
namespace L2
open PySem PySem.Spec PyProof.Rows PySem.W PySem.Calls
section
variable{X:Cx}{tg:Expr}
end
section
variable{X:Cx}
end
section
variable{X:Cx}
end
end L2
namespace QF
open PySem L2
def Pa(fs:List Form)(x t:Str):Bool:=decide (x=t)||fs.any fun f=>(decide (f.1=x)&&decide (f.2.1=t))||(decide (f.1=t)&&decide (f.2.1=x))
def Lv(fs:List Form)(t:Str):List Str:=[t]++(fs.filter fun f=>decide (f.1=t)).map (·.2.1)++(fs.filter fun f=>decide (f.2.1=t)).map (·.1)
def F'(p:Nat→Bool):Nat→Int
 |0=> -1
 |n+1=>if p n then(n:Int)else F' p n
structure NS where
 ws:List Str
 ts:List Str
 fs:List Form
 span:Nat
def NS.p(c:NS)(t:Str)(i:Nat):Bool:=match c.ws[i]? with
 |some x=>Pa c.fs x t
 |none=>false
def NS.Lw(c:NS)(n:Nat):List Int:=c.ts.map fun t=>F' (c.p t) n
def NS.low(c:NS)(n:Nat):Int:=((c.Lw n).min?).getD (-1)
def NS.at_(c:NS)(h:Nat):Option Pr:=if c.low h<c.low (h+1)∧(h:Int)-c.low (h+1)<c.span then some (c.low (h+1),(h:Int))else none
def NS.told(c:NS)(k:Nat):List Pr:=(List.range k).filterMap c.at_
def NS.holds(c:NS)(l h:Nat):Bool:=c.ts.all fun t=>(((c.ws.map fun x=>decide (x∈Lv c.fs t)).drop l).take (h-l)).any id
def NS.ok(c:NS)(l h:Nat):Bool:=c.holds l (h+1)&&!(c.holds (l+1) (h+1))&&!(c.holds l h)
def NS.row(c:NS)(l k:Nat):List Pr:=(List.range k).filterMap fun d=>if c.ok l (l+d)=true then some ((l:Int),((l+d:Nat):Int))else none
def NS.Wr(c:NS)(i:Nat):List Pr:=(List.range i).flatMap fun l=>c.row l (min c.ws.length (l+c.span)-l)
end QF
namespace L2
open PySem PySem.Spec PyProof.Rows PySem.W PySem.Calls
section
variable{X:Cx}{tg:Expr}
end
section
variable{pg:Program}{wd:World}{Ar:Around}{sh:Shared}{Rs:Result→Shared→Prop}{it:Addr}{fp wr:List Addr}{Gn:Array GenState→Array GenState→Prop}{n:Nat}{Pv:Nat→Value→Prop}{Sv:Nat→Shared→Prop}
end
section
variable{X:Cx}
end
end L2
namespace QF
open PySem L2
def vK(q p:Pr):Prop:=q.1<p.1∧q.2<p.2
def gp(o i:Int)(q p:Pr):Int:=o*(p.1-q.1-1)+i*(p.2-q.2-1)
structure Wy(g:Pr→Option Int)(ps:List Pr):Prop where
 ne:ps≠[]
 ok:∀p∈ps,(g p).isSome=true
 up:ps.Pairwise vK
def vl(g:Pr→Option Int)(o i:Int):List Pr→Int
 |[]=>0
 |[p]=>(g p).getD 0
 |p::q::r=>(g p).getD 0-gp o i p q+vl g o i (q::r)
def lI(ps:List Pr):Pr:=ps.headD (0,0)
def lstP(ps:List Pr):Pr:=ps.getLastD (0,0)
theorem dN{ps:List Pr}{p:Pr}:lstP (ps++[p])=p:=by simp[lstP]
theorem uL(g:Pr→Option Int)(o i:Int)(q:Pr)(bs:List Pr):∀(as:List Pr),vl g o i (as++q::bs)=vl g o i (as++[q])+vl g o i (q::bs)-(g q).getD 0
 |[]=>by simp only[List.nil_append,vl];omega
 |[a]=>by
  simp only[List.cons_append,List.nil_append,vl];omega
 |a::b::r=>by
  have ih:=uL g o i q bs (b::r);simp only[List.cons_append]at ih⊢;simp only[vl];rw[ih];omega
theorem qw(g:Pr→Option Int)(o i:Int){ps:List Pr}(fj:ps≠[])(p:Pr):vl g o i (ps++[p])=(g p).getD 0+vl g o i ps-gp o i (lstP ps) p:=by
 obtain⟨qs,q,rfl⟩:∃qs q,ps=qs++[q]:=⟨ps.dropLast,ps.getLast fj,(List.dropLast_concat_getLast fj).symm⟩
 rw[dN,List.append_assoc];have:=uL g o i q [p] qs;simp only[List.singleton_append]at this⊢;rw[this];simp only[vl];omega
theorem Wy.one{g:Pr→Option Int}{p:Pr}(h:(g p).isSome=true):Wy g [p]:=by
 refine⟨XA,fun q hq=>?_,XA⟩;have e:q=p:=by simpa using hq
 rw[e];exact h
theorem oT{a b c:Pr}(h1:vK a b)(h2:vK b c):vK a c:=⟨Int.lt_trans h1.1 h2.1,Int.lt_trans h1.2 h2.2⟩
theorem pw_lst{ps:List Pr}(h:ps.Pairwise vK){q:Pr}(hq:q∈ps):q=lstP ps∨vK q (lstP ps):=by
 have fj:ps≠[]:=fun z=>by rw[z]at hq;cases hq
 obtain⟨qs,x,rfl⟩:∃qs x,ps=qs++[x]:=⟨ps.dropLast,ps.getLast fj,(List.dropLast_concat_getLast fj).symm⟩
 rw[dN];rcases List.mem_append.mp hq with hq|hq
 ·exact .inr ((List.pairwise_append.mp h).2.2 q hq x (XA))
 ·exact .inl (by simpa using hq)
theorem Wy.snoc{g:Pr→Option Int}{ps:List Pr}{p:Pr}(w:Wy g ps)(h:(g p).isSome=true)(s:vK (lstP ps) p):Wy g (ps++[p]):=by
 refine⟨XA,fun q hq=>?_,List.pairwise_append.mpr ⟨w.up,XA,fun a ha b hb=>?_⟩⟩
 ·rcases List.mem_append.mp hq with hq|hq
  ·exact w.ok q hq
  ·have:q=p:=by simpa using hq
   rw[this];exact h
 ·have:b=p:=by simpa using hb
  rw[this];rcases pw_lst w.up ha with e|e
  ·rw[e];exact s
  ·exact oT e s
theorem Wy.split{g:Pr→Option Int}{ps:List Pr}(w:Wy g ps):∃qs,ps=qs++[lstP ps]∧(∃v,g (lstP ps)=some v)∧(qs=[]∨(Wy g qs∧vK (lstP qs) (lstP ps))):=by
 obtain⟨qs,x,rfl⟩:∃qs x,ps=qs++[x]:=⟨ps.dropLast,ps.getLast w.ne,(List.dropLast_concat_getLast w.ne).symm⟩
 rw[dN];refine⟨qs,rfl,Option.isSome_iff_exists.mp (w.ok x (XA)),?_⟩;by_cases e:qs=[]
 ·exact .inl e
 ·have h:=List.pairwise_append.mp w.up;refine .inr ⟨⟨e,fun q hq=>w.ok q (List.mem_append_left _ hq),h.1⟩,h.2.2 _ ?_ x (XA)⟩;obtain⟨rs,y,rfl⟩:∃rs y,qs=rs++[y]:=⟨qs.dropLast,qs.getLast e,(List.dropLast_concat_getLast e).symm⟩
  rw[dN];simp
theorem cQ{ps:List Pr}(h:ps≠[]):lstP ps∈ps:=by
 obtain⟨rs,y,rfl⟩:∃rs y,ps=rs++[y]:=⟨ps.dropLast,ps.getLast h,(List.dropLast_concat_getLast h).symm⟩
 rw[dN];simp
def lf(f:Nat→Nat→Option Int)(p:Pr):Option Int:=if 0≤p.1∧0≤p.2 then f p.1.toNat p.2.toNat else none
theorem oU(f:Nat→Nat→Option Int)(i j:Nat):lf f ((i:Int),(j:Int))=f i j:=by simp[lf]
theorem Z5{f:Nat→Nat→Option Int}{p:Pr}(h:(lf f p).isSome=true):∃i j:Nat,p=((i:Int),(j:Int)):=by
 unfold lf at h;split at h
 ·rename_i hh
  exact⟨p.1.toNat,p.2.toNat,Prod.ext (by simp;omega) (by simp;omega)⟩
 ·cases h
def MW(f:Nat→Nat→Option Int)(o p:Int)(i j:Nat)(v:Int):Prop:=∃ps,Wy (lf f) ps∧(lstP ps).1<(i:Int)∧(lstP ps).2<(j:Int)∧v=vl (lf f) o p ps-(o*((i:Int)-1-(lstP ps).1)+p*((j:Int)-1-(lstP ps).2))
def MY(f:Nat→Nat→Option Int)(o p:Int)(q:Pr)(v:Int):Prop:=∃ps,Wy (lf f) ps∧lstP ps=q∧v=vl (lf f) o p ps
theorem Z6{f:Nat→Nat→Option Int}{o p:Int}{i j:Nat}{b:Option Int}(h:fm (MW f o p i j) b):fm (MY f o p ((i:Int),(j:Int))) (EL (f i j) b):=by
 cases e:f i j with
 |none=>
  rintro v ⟨ps,w,el,rfl⟩;obtain⟨qs,_,⟨x,hx⟩,_⟩:=w.split;rw[el,oU,e]at hx;cases hx
 |some x=>
  have eg:lf f ((i:Int),(j:Int))=some x:=by rw[oU];exact e
  have YO:∀ps,Wy (lf f) ps→lstP ps=((i:Int),(j:Int))→vl (lf f) o p ps=x∨∃v,MW f o p i j v∧vl (lf f) o p ps=x+v:=fun ps w el=>by
   obtain⟨qs,eq,_,hq⟩:=w.split;rw[el]at eq hq;rcases hq with rfl|⟨wq,st⟩
   ·left
    rw[eq];simp[vl,eg]
   ·right
    refine⟨_,⟨qs,wq,st.1,st.2,rfl⟩,?_⟩;rw[eq,qw _ _ _ wq.ne,eg];simp only[gp,Option.getD_some];have e1:(i:Int)-(lstP qs).1-1=(i:Int)-1-(lstP qs).1:=Xx;have e2:(j:Int)-(lstP qs).2-1=(j:Int)-1-(lstP qs).2:=Xx;rw[e1,e2];omega
  have alone:MY f o p ((i:Int),(j:Int)) x:=⟨[((i:Int),(j:Int))], .one (by rw[eg];rfl),rfl,by simp[vl,eg]⟩
  have more:∀v,MW f o p i j v→MY f o p ((i:Int),(j:Int)) (x+v):=by
   rintro v ⟨ps,w,l1,l2,rfl⟩;refine⟨ps++[((i:Int),(j:Int))],w.snoc (by rw[eg];rfl) ⟨l1,l2⟩,dN,?_⟩;rw[qw _ _ _ w.ne,eg];simp only[gp,Option.getD_some];have e1:(i:Int)-(lstP ps).1-1=(i:Int)-1-(lstP ps).1:=Xx;have e2:(j:Int)-(lstP ps).2-1=(j:Int)-1-(lstP ps).2:=Xx;rw[e1,e2];omega
  cases b with
  |none=>
   refine⟨alone,?_⟩;rintro v ⟨ps,w,el,rfl⟩;rcases YO ps w el with h1|⟨u,hu,_⟩
   ·omega
   ·exact absurd hu (h u)
  |some m=>
   simp only[EL];split
   ·refine⟨alone,?_⟩;rintro v ⟨ps,w,el,rfl⟩;rcases YO ps w el with h1|⟨u,hu,h2⟩
    ·omega
    ·have:=h.2 u hu;omega
   ·refine⟨more m h.1,?_⟩;rintro v ⟨ps,w,el,rfl⟩;rcases YO ps w el with h1|⟨u,hu,h2⟩
    ·omega
    ·have:=h.2 u hu;omega
theorem wB{f:Nat→Nat→Option Int}{ps:List Pr}(w:Wy (lf f) ps):0≤(lstP ps).1∧0≤(lstP ps).2:=by
 obtain⟨a,b,e⟩:=Z5 (w.ok _ (cQ w.ne));rw[e];simp
theorem fo(f:Nat→Nat→Option Int)(o p:Int):∀i j:Nat,fm (MW f o p i j) (Bq f o p i j)
 |0,j=>by
  unfold Bq;rintro v ⟨ps,w,l1,_⟩;have:=wB w;simp at l1;omega
 |i+1,0=>by
  unfold Bq;rintro v ⟨ps,w,_,l2,_⟩;have:=wB w;simp at l2;omega
 |i+1,j+1=>by
  rw[Bq];refine(wA (Z6 (fo f o p i j)) ((fo f o p i (j+1)).less o) ((fo f o p (i+1) j).less p)).iff fun v=>?_
  constructor
  ·rintro(⟨ps,w,el,rfl⟩|⟨u,⟨ps,w,l1,l2,rfl⟩,rfl⟩|⟨u,⟨ps,w,l1,l2,rfl⟩,rfl⟩)
   ·refine⟨ps,w,by rw[el];simp;omega,by rw[el];simp;omega,?_⟩;rw[el];have e1:((i+1:Nat):Int)-1-(i:Int)=0:=Xx;have e2:((j+1:Nat):Int)-1-(j:Int)=0:=Xx;simp only[e1,e2,Int.mul_zero];omega
   ·refine⟨ps,w,Xx,Xx,?_⟩;have e1:((i+1:Nat):Int)-1-(lstP ps).1=((i:Int)-1-(lstP ps).1)+1:=Xx;rw[e1,Int.mul_add];omega
   ·refine⟨ps,w,Xx,Xx,?_⟩;have e1:((j+1:Nat):Int)-1-(lstP ps).2=((j:Int)-1-(lstP ps).2)+1:=Xx;rw[e1,Int.mul_add];omega
  ·rintro⟨ps,w,l1,l2,rfl⟩;by_cases h1:(lstP ps).1<(i:Int)
   ·right;left
    refine⟨_,⟨ps,w,h1,l2,rfl⟩,?_⟩;have e1:((i+1:Nat):Int)-1-(lstP ps).1=((i:Int)-1-(lstP ps).1)+1:=Xx;rw[e1,Int.mul_add];omega
   ·by_cases h2:(lstP ps).2<(j:Int)
    ·right;right
     refine⟨_,⟨ps,w,l1,h2,rfl⟩,?_⟩;have e1:((j+1:Nat):Int)-1-(lstP ps).2=((j:Int)-1-(lstP ps).2)+1:=Xx;rw[e1,Int.mul_add];omega
    ·left
     have a1:(lstP ps).1=(i:Int):=Xx;have a2:(lstP ps).2=(j:Int):=Xx;refine⟨ps,w,Prod.ext a1 a2,?_⟩;have e1:((i+1:Nat):Int)-1-(lstP ps).1=0:=Xx;have e2:((j+1:Nat):Int)-1-(lstP ps).2=0:=Xx;simp only[e1,e2,Int.mul_zero];omega
termination_by i j=>(i,j)
theorem qR(f:Nat→Nat→Option Int)(o p:Int)(i j:Nat):fm (MY f o p ((i:Int),(j:Int))) (cW f o p i j):=Z6 (fo f o p i j)
def fr(f:Nat→Nat→Option Int)(n m:Nat)(a b:Nat):Option Int:=if a<n∧b<m then f (n-1-a) (m-1-b)else none
def Bo(f:Nat→Nat→Option Int)(n m:Nat):Prop:=∀i j,(f i j).isSome=true→i<n∧j<m
theorem Ic(c:Case)(shut:List Pr)(p:Pr):lf (j1 c shut) p=Ib c shut p:=by
 unfold lf;split
 ·rename_i h
  unfold j1
  congr 1
  exact Prod.ext (by simp;omega) (by simp;omega)
 ·rename_i h
  unfold Ib;split
  ·rfl
  ·exact(c.pw_out Xs).symm
theorem Ie(c:Case)(shut:List Pr):Bo (j1 c shut) c.xs.length c.ys.length:=fun i j h=>by
 unfold j1 Ib at h;split at h
 ·cases h
 ·obtain⟨w,hw⟩:=Option.isSome_iff_exists.mp h;have:=c.pw_in hw;simp at this;omega
end QF
namespace L2
open PySem PySem.Spec PyProof.Rows PySem.W PySem.Calls
section
variable{X:Cx}
open Classical in
end
end L2
namespace QF
open PySem L2
theorem f'.first{H:Hp}{xs:List V}{ps:List Pr}(P:f' H xs ps)(fj:ps≠[]):∃t,si xs 0=some (.ref t)∧H t=some (.tup [.int (lI ps).1, .int (lI ps).2]):=by
 cases ps with
 |nil=>exact absurd rfl fj
 |cons p r=>
  obtain⟨t,h1,h2⟩:=P.2 0 p rfl;exact⟨t,av (j:=0) h1,h2⟩
end QF
namespace L2
open PySem PySem.Spec PyProof.Rows PySem.W PySem.Calls
section
variable{prog:Program}{w:World}{κ:Type}[DecidableEq κ]{knd:HeapKind prog w κ}{A:Around}{E:Value→Shared→Prop}{s:Shared}
theorem tQ{α β:Type}(f:α→β):∀(xs:List α)(j:Nat),(xs.eraseIdx j).map f=(xs.map f).eraseIdx j
 |[],_=>XA
 | _::_,0=>XA
 | _::r,j+1=>by simp[tQ f r j]
theorem AI{xs:List (κ×Addr×Value)}(hn:(xs.map (·.1)).Nodup):∀{j:Nat}{k:κ}{p:Addr×Value},xs[j]?=some (k,p)→xs.eraseIdx j=xs.filter fun x=>decide (x.1≠k):=by
 induction xs with
 |nil=>intro j k p h;simp at h
 |cons x r ih=>
  intro j k p h;have Bz:=List.nodup_cons.mp (by simpa using hn:(x.1::r.map (·.1)).Nodup);cases j with
  |zero=>
   have:x=(k,p):=by simpa using h
   subst this;have hf:r.filter (fun x=>decide (x.1≠k))=r:=List.filter_eq_self.mpr fun y hy=>by
    have:y.1≠k:=fun e=>Bz.1 (List.mem_map.mpr ⟨y,hy,e⟩)
    simpa using this
   simp only[List.eraseIdx_cons_zero,List.filter_cons];rw[hf];simp
  |succ j=>
   have hj:r[j]?=some (k,p):=by simpa using h
   have hx:x.1≠k:=fun e=>Bz.1 (e▸(List.mem_map.mpr ⟨(k,p),Xi hj,rfl⟩))
   simp only[List.eraseIdx_cons_succ,List.filter_cons];rw[ih Bz.2 hj,Xo (by simpa using hx)]
theorem uM{d a:Addr}{xs:List (κ×Addr×Value)}{k:κ}{p:Addr×Value}{Q:Option DictEntry→Shared→Prop}(hu:knd.room A)(mW:knd.is s.heap k a)(hm:s.heap.DictOfH knd d xs)(hp:atKey xs k=some p)(hsz:xs.length≤sizeLine)
  (h:∀h' e,e.val=p.2→h'.DictOfH knd d (xs.filter fun x=>decide (x.1≠k))→Heap.SameBut d s.heap h'→Q (some e) {s with heap:=h',toks:=s.toks+knd.draws k}):wpAny (model prog w) A (Builtin.Dict.takeOut d (.ref a)) Q E s:=by
 obtain⟨o,es,ep,ho,hc,hd,he,Pb,hn⟩:=hm;unfold Builtin.Dict.takeOut
 try with_reducible refine wpAny_holding ?_
 refine wpAny_bind (knd.pyHash hu mW ?_);refine wpAny_bind (wpAny_dictFind_heap (s:={s with toks:=s.toks+knd.draws k}) hu mW ho hd he Pb hn ?_ ?_)
 ·intro AJ;rw[atKey_none_of_get AJ]at hp;cases hp
 ·intro j q hj;have eq:q=p:=by rw[atKey_of_get hn hj]at hp;exact Option.some.inj hp
  subst eq;refine wpAny_bind (wpAny_dictEntries (s:={s with toks:=s.toks+knd.draws k}) ho hd ?_);rw[entry_at he j,hj];refine wpAny_bind (wpAny_updateDictKeys (hz:=by have e:=size_of_entries he;omega) (s:={s with toks:=s.toks+knd.draws k}) ho hd (wpAny_pure (h _ _ rfl ⟨_,_,ep+1,Heap.get?_update_self _ ho (Obj.isFreed_of_dict (Obj.data_mapDictKeys hd _)),
   hc.mapDictKeys _,Obj.data_mapDictKeys hd _,?_,?_,?_⟩ (Heap.SameBut.update ..))))
  ·rw[←AI hn hj,tQ,←he];obtain⟨l⟩:=es;simp
  ·intro x hx;exact knd.keeps (Pb x (List.mem_filter.mp hx).1) ho hd (Heap.SameBut.update ..)
  ·exact hn.sublist (List.filter_sublist.map _)
theorem Zd(d a:Addr):
  MeetsIn prog w (Builtin.«dict.pop» ⟨[.ref d, .ref a],[]⟩) (fun A R s=>knd.room A.in1∧∃k xs p,knd.is s.heap k a∧s.heap.DictOfH knd d xs∧xs.length≤sizeLine∧atKey xs k=some p∧
   ∀h',h'.DictOfH knd d (xs.filter fun x=>decide (x.1≠k))→Heap.SameBut d s.heap h'→R (.ok (.ret p.2)) {s with heap:=h',toks:=s.toks+knd.draws k}):=
 .of_wp fun A R s ⟨hu,k,xs,p,mW,hm,hsz,hp,h⟩=>by
  obtain⟨o,es,ep,ho,hc,hd,he,Pb,hn⟩:=id hm;have fj:es.isEmpty=false:=by
   cases hx:xs with
   |nil=>rw[hx]at hp;cases hp
   |cons x r=>
    have:=size_of_entries he;rw[hx]at this;simp at this;rw[Array.isEmpty_eq_false_iff];intro e;rw[e]at this;simp at this
  unfold Builtin.«dict.pop»;refine wpAny_bind ?_;unfold Builtin.Dict.keyAndDefault;refine wpAny_bind (wpAny_notOrdered_dict hm.typeIs ?_);show wpAny _ _ (pure (d,Value.ref a,none)) _ _ s;refine wpAny_pure ?_;have Lx:(keyPart (Value.ref a)).isSome=false:=rfl;simp only[Lx,Bool.false_eq_true,if_false];refine wpAny_bind (wpAny_dictEntries ho hd (wpAny_bind (wpAny_pure ?_)));rw[fj];simp only[Bool.false_eq_true,if_false];refine wpAny_bind (uM hu mW hm hp hsz fun h' e Uq Av lU=>?_);simp only[Option.isNone_some,Bool.false_eq_true,if_false];exact wpAny_bind (wpAny_letGo (wpAny_pure ⟨e.val,rfl,by rw[Uq];exact h h' Av lU⟩))
end
section
variable{X:Cx}{pins:List (Addr×Obj)}{σ:St}{H:Hp}{s:Shared}{a:Addr}{u:Value}{A:Around}{E:Value→Shared→Prop}{kvs:List (List Key×V)}
theorem KT.drop{xs:List (List Key×Addr×Value)}(r:KT H kvs xs)(k:List Key):KT H (ie kvs k) (xs.filter fun x=>decide (x.1≠k)):=by
 unfold ie
 induction r with
 |nil=>exact .nil
 |cons z t ih=>
  simp only[List.filter_cons];rw[z.1];split
  ·exact .cons z ih
  ·exact ih
theorem Ig{v:V}{k:List Key}{b:Addr}{Q:Value→Shared→Prop}(hu:A.units+1<cLine)(I:Inv X pins σ H s)(e:H a=some (.dT kvs))(eb:H b=some (.tup (k.map kV)))(l:bj kvs k=some v)
  (h:∀w' s',Inv X pins σ (upd H a (.dT (ie kvs k))) s'→RelV v w'→Q w' s'):wpAny (model X.prog X.w) A (call (.builtin "dict.pop") [.ref a, .ref b]) Q E s:=by
 obtain⟨z,hd,xs,rel,dd⟩:=FP I.bL e;have rv:=rel.val k;rw[l]at rv;obtain⟨w',hw,jy⟩:=jz.some_of rv;obtain⟨p,hp,rfl⟩:=Option.map_eq_some_iff.mp hw;refine call_meetsIn PySem.F.slot_dict_pop dd.typeIs PySem.F.entry_dict_pop (PySem.F.args_dict_pop_2 _ _) (Zd (knd:=tupleKind (cK X.prog X.w)) a b)
  ⟨tupleKind_room_in1 hu,k,xs,p,l7 I.bL eb,dd,by rw[←Paired.length rel];exact z,hp,fun h' FQ hs=>h _ _ ?_ jy⟩
 obtain⟨q,es,ep,hq,h2,h3,h4,_,h5⟩:=FQ;refine ud I (by rw[e];exact True.intro) hs ⟨q,hq⟩ ⟨Nat.le_trans (v8 kvs k) z,hd,_,(rel.drop k).keeps fun c ys ec=>?_,q,es,ep,hq,h2,h3,h4,h5⟩;rw[af (hZ ec e (fun z=>nomatch z))];exact ec
end
inductive Ga(x y:V)(H:Hp)(Q:VK):Prop
 |mk (a b:Addr) (kvs:List (List Key×V)) (k:List Key) (v:V) (_:x= .ref a) (_:y= .ref b) (_:H a=some (.dT kvs)) (_:H b=some (.tup (k.map kV))) (_:bj kvs k=some v) (_:Q v (upd H a (.dT (ie kvs k)))):Ga x y H Q
def Ly(td ty:TE):TE:=fun σ H Q=>td σ H fun x H1=>∃a,x= .ref a∧Ox H1 a∧ty σ H1 fun y H2=>Ga x y H2 Q
theorem CC{X:Cx}{o e:Expr}{apos dO:Pos}{td ty:TE}(hu:X.A.units+1<cLine)(ho:PE X o td)(he:PE X e ty)(m:M1 X o "pop" apos e dO):PE X (.Call (.Attribute o "pop" apos) [e] [] dO) (Ly td ty):=by
 intro pins s σ H Q I h;refine wpAny_Call_method m.base m.ue m.line PySem.F.plainAttrs_dict PySem.F.slot_dict_pop PySem.F.type_dict_pop (cj (ho pins s σ H _ I h) fun u s1 ⟨x,H1,I1,rx,a,ex,d,q1⟩=>?_);subst ex;obtain rfl:u=Value.ref a:=rx;obtain⟨t1,t2,_⟩:=BU I1 d;refine⟨t1,t2,?_⟩;rw[m.trees];refine Calls.callWith_builtin rfl (Calls.evalArgs_plain (Calls.spliced_cons (cj (he pins s1 σ H1 _ I1 q1) fun iv s2 ⟨y,H2,I2,ry,q2⟩=>Calls.spliced_nil ?_)));obtain⟨a',b,kvs,k,v,e1,rfl,e2,e3,l,q⟩:=q2;cases e1;obtain rfl:iv=Value.ref b:=ry;exact Ig hu I2 e2 e3 l fun w' s3 I3 jy=>⟨v,_,I3,jy,q⟩
section
variable{prog:Program}{w:World}{A:Around}{E:Value→Shared→Prop}{s:Shared}{it d:Addr}{i ep:Nat}{od:Obj}{es:Array DictEntry}{Q:Option Value→Shared→Prop}
theorem CD(hit:s.heap.IsValIter it d i es.size ep)(Gb:s.heap.get? d=some od)(Gd:od.data= .dict es ep)(hi:i<es.size)
  (hQ:∀h',h'.IsValIter it d (i+1) es.size ep→Heap.SameBut it s.heap h'→Q (some es[i].val) {s with heap:=h'}):wpAny (model prog w) A (pyNext (.ref it)) Q E s:=by
 obtain⟨o,ho,hc,hd⟩:=id hit;have T:=hit.typeIs;have AJ:Builtin.Dict_items.ownsTuple "dict_valueiterator"=false:=Xy;unfold pyNext;refine wpAny_bind (wpAny_attempt (wpAny_callSpecial?_slot (name:=Str.ofString "__next__") T F.slot_dict_valueiterator_next (wpAny_call_entry F.slot_dict_valueiterator_next T F.entry_dict_valueiterator_next ?_ (F.args_dict_valueiterator_next_1 _))));refine wpAny_bind (wpAny_pure (wpAny_bind (wpAny_bind ?_)));first|refine wpAny_bind (wpAny_typeNameOfWhole_valiter T (wpAny_pure ?_))|refine wpAny_bind (wpAny_typeNameOf_valiter T (wpAny_pure ?_))
 refine wpAny_bind (wpAny_fieldsOf ho hd ?_);simp only[AJ,Bool.false_eq_true,if_false];show wpAny _ _ (if (Value.ref d==Value.none)=true then _ else _) _ _ s;rw[Xk (show ¬((Value.ref d==Value.none)=true)from Bool.false_ne_true)];refine wpAny_bind (wpAny_pure (wpAny_bind (wpAny_dictEntries Gb Gd ?_)));rw[if_neg Xr];refine wpAny_bind (wpAny_pure (wpAny_bind (wpAny_dictEpoch Gb Gd ?_)));rw[if_neg Xr];refine wpAny_pure ?_;simp only[show ¬((i:Int)<0)from by omega,if_false,Int.toNat_natCast,Array.getElem?_eq_getElem hi];refine wpAny_bind ?_;first|refine wpAny_bind (wpAny_typeNameOfWhole_valiter T (wpAny_pure ?_))|refine wpAny_bind (wpAny_typeNameOf_valiter T (wpAny_pure ?_))
 refine wpAny_bind (wpAny_isOneOf_valiter T ?_);show wpAny _ _ (setField (.ref it) 1 (rawInt ((i:Int)+1))>>=_) _ _ s;refine wpAny_bind (wpAny_setField ho hd Xr ?_);have ht:(s.heap.update it (Obj.mapFields (·.setIfInBounds 1 (rawInt ((i:Int)+1))))).IsValIter it d (i+1) es.size ep:=
  ⟨_,Heap.get?_update_self _ ho (Obj.isFreed_of_fields (Obj.data_mapFields hd _)),(Obj.cls_mapFields ..).trans hc,by rw[Obj.data_mapFields hd];simp[rawInt]⟩
 refine wpAny_bind (wpAny_holding (wpAny_bind (wpAny_isOneOf_valiter (s:={s with heap:=s.heap.update it (Obj.mapFields (·.setIfInBounds 1 (rawInt ((i:Int)+1))))}) ht.typeIs ?_)));refine wpAny_bind (wpAny_isOneOf_valiter (s:={s with heap:=s.heap.update it (Obj.mapFields (·.setIfInBounds 1 (rawInt ((i:Int)+1))))}) ht.typeIs ?_);show wpAny _ _ (pure es[i].val) _ _ _;exact wpAny_pure (wpAny_pure ⟨_,rfl,wpAny_pure (hQ _ ht (Heap.SameBut.update ..))⟩)
theorem EN(hh:A.handled=none)(hit:s.heap.IsValIter it d i es.size ep)(Gb:s.heap.get? d=some od)(Gd:od.data= .dict es ep)(hi:es.size≤i)
  (hQ:∀h',Heap.ExtBut it s.heap h'→Q none {s with heap:=h'}):wpAny (model prog w) A (pyNext (.ref it)) Q E s:=by
 obtain⟨o,ho,hc,hd⟩:=id hit;have T:=hit.typeIs;have AJ:Builtin.Dict_items.ownsTuple "dict_valueiterator"=false:=Xy;unfold pyNext;refine wpAny_bind (wpAny_attempt (wpAny_callSpecial?_slot (name:=Str.ofString "__next__") T F.slot_dict_valueiterator_next (wpAny_call_entry F.slot_dict_valueiterator_next T F.entry_dict_valueiterator_next ?_ (F.args_dict_valueiterator_next_1 _))));refine wpAny_bind (wpAny_pure (wpAny_bind (wpAny_bind ?_)));first|refine wpAny_bind (wpAny_typeNameOfWhole_valiter T (wpAny_pure ?_))|refine wpAny_bind (wpAny_typeNameOf_valiter T (wpAny_pure ?_))
 refine wpAny_bind (wpAny_fieldsOf ho hd ?_);simp only[AJ,Bool.false_eq_true,if_false];show wpAny _ _ (if (Value.ref d==Value.none)=true then _ else _) _ _ s;rw[Xk (show ¬((Value.ref d==Value.none)=true)from Bool.false_ne_true)];refine wpAny_bind (wpAny_pure (wpAny_bind (wpAny_dictEntries Gb Gd ?_)));rw[if_neg Xr];refine wpAny_bind (wpAny_pure (wpAny_bind (wpAny_dictEpoch Gb Gd ?_)));rw[if_neg Xr];refine wpAny_pure ?_;simp only[show ¬((i:Int)<0)from by omega,if_false,Int.toNat_natCast,Array.getElem?_eq_none hi];refine wpAny_bind ?_;first|refine wpAny_bind (wpAny_typeNameOfWhole_valiter T (wpAny_pure ?_))|refine wpAny_bind (wpAny_typeNameOf_valiter T (wpAny_pure ?_))
 show wpAny _ _ (setField (.ref it) 0 .none>>=_) _ _ s;refine wpAny_bind (wpAny_setField ho hd Xr ?_);show wpAny _ _ (newExc (.type "StopIteration") []>>=_) _ _ _;refine wpAny_bind ?_;simp only[newExc,newTuple];refine wpAny_bind (wpAny_newObj_type ?_ (by size_fits));refine wpAny_bind (m:=firstArgMember _ _) (wpAny_of_eq (a:=Value.none) (by first|rfl|(simp only[firstArgMember];rfl)) ?_);refine wpAny_newObj_type ?_ (by size_fits);simp only[raiseNew];refine wpAny_bind (wpAny_handled ?_);rw[show A.in1.handled=none from hh];refine wpAny_bind (wpAny_pure (wpAny_throw ?_));refine wpAny_bind (wpAny_isInstance (T:="StopIteration") (b:=true) ⟨_,Heap.get?_push_size _ rfl,rfl⟩ isSubtype_stop ?_);exact wpAny_pure (hQ _ (((Heap.SameBut.update ..).extBut.push _).push _))
end
theorem tR{α β:Type}{F:α→β→Prop}:∀{l:List α}{m:List β}{i:Nat}{a:α},Paired F l m→l[i]?=some a→∃b,m[i]?=some b∧F a b
 | _,_,_,_, .nil,e=>by simp at e
 | _,_,0,_, .cons r _,e=>by simp at e;subst e;exact⟨_,rfl,r⟩
 | _,_,i+1,_, .cons _ t,e=>by
  obtain⟨b,h,f⟩:=tR (i:=i) t (by simpa using e);exact⟨b,by simpa using h,f⟩
def Pc(d:Addr)(o:Obj)(kvs:List (List Key×V)):It:=
 ⟨fun i H=>H d=some (.qo o (.dT kvs))∧i<kvs.length,fun i H x H'=>H'=H∧∃p,kvs[i]?=some p∧x=p.2,fun i H=>H d=some (.qo o (.dT kvs))∧kvs.length≤i⟩
theorem Yr{P:Program}{w:World}{H:Hp}{h:Heap}{d:Addr}{o:Obj}{kvs:List (List Key×V)}{es:Array DictEntry}{ep:Nat}(ok:kb P w H h)(e:H d=some (.qo o (.dT kvs)))(hd:o.data= .dict es ep):
  h.get? d=some o∧es.size=kvs.length∧∀i (hi:i<es.size) p,kvs[i]?=some p→RelV p.2 es[i].val:=by
 obtain⟨q1,_,_,xs,r,o',XR,MB,z1,z2,z3,z4,_⟩:=ok d _ e;rw[q1]at z1;cases z1;rw[hd]at z3;cases z3;have hs:=size_of_entries z4;have hl:=Paired.length r;refine⟨q1,by rw[hs,hl],fun i hi p hp=>?_⟩;obtain⟨x,hx,rx⟩:=tR r hp;have e1:=entry_at z4 i;rw[hx,Array.getElem?_eq_getElem hi]at e1;have:es[i]=entryOfKey (tupleKind (cK P w)) x:=Option.some.inj e1;rw[this];exact rx.2.2
theorem turn_val{P:Program}{w:World}{K:Frag}{tg:Expr}{it d:Addr}{o:Obj}{kvs:List (List Key×V)}{es:Array DictEntry}{ep:Nat}(hd:o.data= .dict es ep):Turn P w K tg (Pc d o kvs) [it] it (fun i h=>h.IsValIter it d i es.size ep) where
 mem:=XA
 obj:=fun i h st b hb=>by
  have e:b=it:=by simpa using hb
  subst e;obtain⟨o,e,c,d⟩:=st;exact⟨o,e,fun v z=>by rw[d]at z;cases z⟩
 keep:=fun i h h' st k=>let ⟨o,ho,r⟩:=st;⟨o,k it (XA) o ho,r⟩
 item:=by
  intro X hP hw hK hc i pins s σ H E I hf st hg;subst hP hw hK;obtain⟨hg,hi⟩:=hg;obtain⟨f0,f1,f2,f3,f4,f5⟩:=hf it (XA);obtain⟨g1,g2,g3⟩:=Yr I.bL hg hd;have XD:i<es.size:=Xx;refine CD st g1 hd XD fun h' aP sb=>?_
  have I1:Inv X pins σ H {s with heap:=h'}:=I.turned (t':=s.toks) (fun b o hb e=>(sb.2 b hb).trans e) f0 f1 f3 f4 f5;obtain⟨oi,q1,q2,q3⟩:=id aP;exact⟨_,rfl,vV (s:={s with heap:=h'}) q1 q2 q3 (Xy) ⟨_,H,I1,g3 i XD kvs[i] (by simp[hi]),⟨rfl,kvs[i],by simp[hi],rfl⟩,aP,fun b hb=>(hf b hb).1⟩⟩
 done:=by
  intro X hP hw hK hc i pins s σ H E I hf st hg;subst hP hw hK;obtain⟨hg,hi⟩:=hg;obtain⟨f0,f1,f2,f3,f4,f5⟩:=hf it (XA);obtain⟨g1,g2,g3⟩:=Yr I.bL hg hd;exact EN (I.ok.hd hc) st g1 hd Xs fun h' eb=>⟨rfl,I.turned (t':=s.toks) (fun b o hb e=>eb b o hb e) f0 f1 f3 f4 f5⟩
 self:=fun _ _ _ _ _ st h=>wpAny_pyIter_valiter st h
section
variable{prog:Program}{w:World}{A:Around}{E:Value→Shared→Prop}{s:Shared}
theorem AK(d:Addr)(hd:(d==sysModules)=false):MeetsIn prog w (Builtin.«dict.values» ⟨[.ref d],[]⟩) (fun _ R s=>s.TypeIs (.ref d) "dict"∧
   R (.ok (.ret (.ref s.heap.objs.size))) {s with heap:=s.heap.push {cls:= .type "dict_values",data:= .fields #[.ref d]}}):=
 .of_wp fun A R s ⟨ht,h⟩=>by
  refine wpAny_bind ?_;unfold Builtin.Dict.noArgs;refine wpAny_bind (wpAny_notOrdered_dict ht ?_);show wpAny _ _ (pure d) _ _ s;refine wpAny_pure ?_;show wpAny _ _ (Builtin.Dict.showsAll d>>=_) _ _ s;unfold Builtin.Dict.showsAll;rw[Xk (by rw[hd];exact Bool.false_ne_true)];exact wpAny_bind (wpAny_pure (wpAny_bind (wpAny_newObj_type (wpAny_pure ⟨_,rfl,h⟩))))
theorem AL{v d:Addr}{od:Obj}{es:Array DictEntry}{ep:Nat}{Q:Value→Shared→Prop}(hv:s.heap.IsValuesView v d)(Gb:s.heap.get? d=some od)(Gd:od.data= .dict es ep)
  (hQ:Q (.ref s.heap.objs.size) {s with heap:=s.heap.push {cls:= .type "dict_valueiterator",data:= .fields #[.ref d, .int 0 0, .int es.size 0, .int ep 0]}}):wpAny (model prog w) A (pyIter (.ref v)) Q E s:=by
 obtain⟨ov,Ur,Ws,Us⟩:=id hv;refine wpAny_pyIter_slot hv.typeIs F.slot_dict_values_iter (wpAny_call_entry F.slot_dict_values_iter hv.typeIs F.entry_dict_values_iter ?_ (F.args_dict_values_iter_1 _));unfold Builtin.«dict_values.__iter__»;refine wpAny_bind (wpAny_pure (wpAny_bind ?_));unfold Builtin.Dict_items.dictOf;refine wpAny_bind (wpAny_field Ur Us (x:= .ref d) rfl (wpAny_pure (wpAny_bind ?_)));unfold Builtin.Dict_items.newIterator;refine wpAny_bind (wpAny_dictEntries Gb Gd (wpAny_bind (wpAny_dictEpoch Gb Gd ?_)));have AJ:Builtin.Dict_items.ownsTuple "dict_valueiterator"=false:=Xy;simp only[AJ,Bool.false_eq_true,if_false];refine wpAny_newObj_type (wpAny_pure ⟨_,rfl,"dict_valueiterator",_,⟨_,Heap.get?_push_size _ rfl,rfl⟩,F.slot_dict_valueiterator_next.lookup,?_⟩);simpa[rawInt]using hQ
end
def Lz(d8:Hp)(tl:TE):TI:=fun σ H R=>tl σ H fun x H1=>∃d kvs,x= .ref d∧H1 d=some (.dT kvs)∧∀o,NF d8 d→R (Pc d o kvs) (upd H1 d (.qo o (.dT kvs)))
theorem EO{X:Cx}(d8:Hp){tg o:Expr}{tl:TE}{apos dO:Pos}(hl:PE X o tl)(mZ:attributeBase o "values" X.env (eval o X.env)=eval o X.env:=by rfl)(m3:(apos.endLine==dO.line)=true:=by rfl)(hH:X.d8=d8:=by rfl):
  PI X tg (.Call (.Attribute o "values" apos) [] [] dO) (Lz d8 tl):=by
 subst hH;intro pins s σ H R I h;refine wpAny_Call_method0_late mZ m3 (cj (hl pins s σ H _ I h) fun v s1 ⟨x,H1,I1,r1,q1⟩=>?_);obtain⟨d,kvs,e,hd,q⟩:=q1;subst e;cases r1;obtain⟨z1,z2,xs,r,o,es,ep,g1,g2,g3,g4,g5⟩:=I1.bL d _ hd;have nf:NF X.d8 d:=fun o v e=>by
  have:=I1.base.mT d o v e;rw[hd]at this;cases this
 refine⟨"dict",_,F.plainAttrs_dict,F.slot_dict_values,F.type_dict_values,⟨o,g1,g2.1⟩,fun b hb=>?_,Calls.callWith_builtin rfl (PySem.evalArgs_none ?_)⟩
 ·cases hb;exact⟨o,g1,g2.2.1⟩
 refine call_meetsIn F.slot_dict_values ⟨o,g1,g2.1⟩ F.entry_dict_values (F.args_dict_values_1 _) (AK d z2) ⟨⟨o,g1,g2.1⟩,?_⟩;have Ut:=Heap.get?_push_of_some {cls:= .type "dict_values",data:= .fields #[.ref d]} g1;refine AL (s:={s1 with heap:=s1.heap.push {cls:= .type "dict_values",data:= .fields #[.ref d]}}) ⟨_,Heap.get?_push_size _ rfl,rfl,rfl⟩ Ut g3 ?_;have Iz:Inv X pins σ (upd H1 d (.qo o (.dT kvs))) s1:=I1.swap hd (fun _ z=>nomatch z) (fun _ z=>nomatch z) (fun _ z=>nomatch z) nf ⟨g1,z1,z2,xs,KT.keeps r (fun c ys ec=>by rw[af (hZ ec hd (fun z=>nomatch z))];exact ec),o,es,ep,g1,g2,g3,g4,g5⟩;have I2:=Iz.kept (t':=s1.toks) fun b o e=>Heap.get?_push_of_some {cls:= .type "dict_values",data:= .fields #[.ref d]} e
 refine⟨_,[_],_,_,_,rfl,I2.kept (t':=s1.toks) fun b o e=>Xl e,turn_val (o:=o) (kvs:=kvs) g3,⟨_,Heap.get?_push_size _ rfl,rfl,rfl⟩,fun b hb=>?_,q o nf⟩;have e:b=(s1.heap.push {cls:= .type "dict_values",data:= .fields #[.ref d]}).objs.size:=by simpa using hb
 subst e;exact I2.sf (Nat.le_refl _) (I2.bL.fresh (Nat.le_refl _))
structure XX(n:Nat)(lt:Nat→Nat→Bool):Prop where
 tr:∀i j k,i<n→j<n→k<n→lt i j=true→lt j k=true→lt i k=true
 as:∀i j,i<n→j<n→lt i j=true→lt j i=false
 Pd:∀i j,i<n→j<n→i≠j→lt i j=true∨lt j i=true
def vL(n:Nat)(p:Array Nat):Prop:=p.toList.Perm (List.range n)
abbrev gd(p:Array Nat)(k:Nat):Nat:=p.getD k 0
theorem CH(p:Array Nat)(k:Nat):gd p k=(p[k]?).getD 0:=by unfold gd;rw[Array.getD_eq_getD_getElem?]
theorem vL.size{n:Nat}{p:Array Nat}(h:vL n p):p.size=n:=by have:=h.length_eq;simpa using this
def Sd(lt:Nat→Nat→Bool)(p:Array Nat)(m:Nat):Prop:=∀i j,i<j→j<m→lt (gd p i) (gd p j)=true
section
variable{n:Nat}{lt:Nat→Nat→Bool}(L:XX n lt)
include L
omit L in
omit L in
omit L in
end
def wC:Bool→Keyed→Array Keyed→Nat→Nat→Nat→StateT SortSt Sem (Option Nat):=sortPriv%PySem.Builtin.gallop
def Ih:Array Keyed→Array Keyed→StateT SortSt Sem (Array Keyed):=sortPriv%PySem.Builtin.mergeLo
def Ii:Array Keyed→Array Keyed→StateT SortSt Sem (Array Keyed):=sortPriv%PySem.Builtin.mergeHi
def Y'(l:Bool)(key:Keyed)(xs:Array Keyed)(b i:Nat):StateT SortSt Sem (Option Bool):=do
 let x←elem' xs (b+i)
 if l then lt' x key else return (←lt' key x).map (!·)
theorem ER(l:Bool)(key:Keyed)(xs:Array Keyed)(b n h:Nat):wC l key xs b n h=(do
 let mut u:=0
 let mut v:=1
 let mut lo:=0
 let mut hi:=0
 let some r←Y' l key xs b h|return none
 if r then
  let mx:=n-h
  for _ in [0:n] do
   if v≥mx then break
   let some z←Y' l key xs b (h+v)|return none
   if !z then break
   u:=v
   v:=2*v+1
  lo:=h+u+1
  hi:=h+min v mx
 else
  let mx:=h+1
  for _ in [0:n] do
   if v≥mx then break
   let some z←Y' l key xs b (h-v)|return none
   if z then break
   u:=v
   v:=2*v+1
  lo:=h+1-min v mx
  hi:=h-u
 for _ in [0:n] do
  if lo≥hi then break
  let m:=lo+(hi-lo)/2
  let some z←Y' l key xs b m|return none
  if z then lo:=m+1 else hi:=m
 return some hi):=rfl
section
variable{prog:Program}{w:World}{A:Around}{E:Value→Shared→Prop}{s:Shared}
structure CI(prog:Program)(w:World)(A:Around)(s:Shared)(X:List Keyed)(κ:SortKind)(lt:Keyed→Keyed→Bool):Prop where
 run:∀x∈X,∀y∈X,∀C:Bool→Shared→Prop,C (lt x y) s→wpAny (model prog w) A (keyLt' κ x.1 y.1) C (fun _ _=>False) s
 tr:∀x∈X,∀y∈X,∀z∈X,lt x y=true→lt y z=true→lt x z=true
 as:∀x∈X,∀y∈X,lt x y=true→lt y x=false
 Pd:∀x∈X,∀y∈X,x≠y→lt x y=true∨lt y x=true
 nd:X.Nodup
variable{X:List Keyed}{κ:SortKind}{lt:Keyed→Keyed→Bool}(C:CI prog w A s X κ lt)
include C
theorem CI.no{x y:Keyed}(h1:x∈X)(h2:y∈X)(hn:x≠y)(h:lt x y=false):lt y x=true:=(C.Pd x h1 y h2 hn).resolve_left (by rw[h];simp)
theorem CI.ask{st:SortSt}{x y:Keyed}{Q:Option Bool→SortSt→Prop}(hk:kindOf st=κ)(h1:x∈X)(h2:y∈X)(h:Q (some (lt x y)) st):wpS (model prog w) A E s (lt' x y) Q st:=by
 rw[lt'_eq];refine wpS_bind (wpS_get ?_);rw[hk];refine wpS_bind (wpS_lift (wpAny_attempt (wpAny_mono (C.run x h1 y h2 (fun b s'=>b=lt x y∧s'=s) ⟨rfl,rfl⟩) ?_ fun _ _ e=>e.elim)));rintro b s' ⟨rfl,rfl⟩;exact⟨rfl,wpS_pure h⟩
omit C in
theorem d_{st:SortSt}{xs:Array Keyed}{i:Nat}{x:Keyed}{Q:Keyed→SortSt→Prop}(e:xs[i]?=some x)(h:Q x st):wpS (model prog w) A E s (elem' xs i) Q st:=by
 rw[elem'_eq,e];exact wpS_pure h
def j8(lt:Keyed→Keyed→Bool)(l:Bool)(key x:Keyed):Bool:=if l then lt x key else !lt key x
theorem qx{st:SortSt}{l:Bool}{key x:Keyed}{xs:Array Keyed}{b i:Nat}{Q:Option Bool→SortSt→Prop}(hk:kindOf st=κ)(h1:key∈X)(h2:x∈X)(e:xs[b+i]?=some x)(h:Q (some (j8 lt l key x)) st):wpS (model prog w) A E s (Y' l key xs b i) Q st:=by
 unfold Y';refine wpS_bind (d_ e ?_);cases l with
 |true=>exact C.ask hk h2 h1 h
 |false=>exact wpS_bind (C.ask hk h1 h2 (wpS_pure h))
theorem oV{st:SortSt}{l:Bool}{key:Keyed}{xs:Array Keyed}{b n h:Nat}{Q:Option Nat→SortSt→Prop}(g:Nat→Keyed)(hk:kindOf st=κ)(h1:key∈X)(hg:∀i,i<n→xs[b+i]?=some (g i)∧g i∈X)(OM:∀i j,i<j→j<n→lt (g i) (g j)=true)(hh:h<n)
  (q:∀k,k≤n→(∀i,i<k→j8 lt l key (g i)=true)→(∀i,k≤i→i<n→j8 lt l key (g i)=false)→Q (some k) st):wpS (model prog w) A E s (wC l key xs b n h) Q st:=by
 have dn:∀i j,i≤j→j<n→j8 lt l key (g j)=true→j8 lt l key (g i)=true:=fun i j r6 hj hb=>by
  by_cases e:i=j
  ·rw[e];exact hb
  have hl:=OM i j Xv hj;unfold j8 at hb⊢;cases l with
  |true=>exact C.tr _ (hg i Xv).2 _ (hg j hj).2 _ h1 hl hb
  |false=>
   simp only[Bool.false_eq_true,if_false,Bool.not_eq_true']at hb⊢;cases e2:lt key (g i)with
   |false=>rfl
   |true=>rw[C.tr _ h1 _ (hg i Xv).2 _ (hg j hj).2 e2 hl]at hb;cases hb
 have up:∀i j,i≤j→j<n→j8 lt l key (g i)=false→j8 lt l key (g j)=false:=fun i j r6 hj hb=>by
  cases e:j8 lt l key (g j)with
  |false=>rfl
  |true=>rw[dn i j r6 hj e]at hb;cases hb
 have bin:∀lo hi,lo≤hi→hi≤n→(∀i,i<lo→j8 lt l key (g i)=true)→(∀i,hi≤i→i<n→j8 lt l key (g i)=false)→wpS (model prog w) A E s (do
   let r←forIn [0:n] ((none,lo,hi):Option (Option Nat)×Nat×Nat) fun _ __s=>
    if __s.2.1≥__s.2.2 then pure (ForInStep.done (none,__s.2.1,__s.2.2))
    else do
     let __x←Y' l key xs b (__s.2.1+(__s.2.2-__s.2.1)/2)
     match __x with
     |some z=>if z=true then pure (ForInStep.yield (none,__s.2.1+(__s.2.2-__s.2.1)/2+1,__s.2.2))else pure (ForInStep.yield (none,__s.2.1,__s.2.1+(__s.2.2-__s.2.1)/2))
     | _=>pure (ForInStep.done (some none,__s.2.1,__s.2.2))
   match r.1 with
   |some r=>pure r
   |none=>pure (some r.2.2)) Q st:=fun lo hi h2 h3 h4 h5=>by
  refine wpS_bind (wpS_mono (wpS_forRange (I:=fun x c aP=>aP=st∧∃lo hi,c=(none,lo,hi)∧lo≤hi∧hi≤n∧(∀i,i<lo→j8 lt l key (g i)=true)∧(∀i,hi≤i→i<n→j8 lt l key (g i)=false)∧hi-lo+x≤n) (Q:=fun c aP=>aP=st∧∃k,c.1=none∧c.2.2=k∧k≤n∧(∀i,i<k→j8 lt l key (g i)=true)∧(∀i,k≤i→i<n→j8 lt l key (g i)=false)) ?_ ?_ ⟨rfl,lo,hi,rfl,h2,h3,h4,h5,by lia⟩) ?_)
  ·rintro x c aP _ hx ⟨rfl,lo,hi,rfl,a1,a2,a3,a4,a5⟩;dsimp only;by_cases Rr:lo≥hi
   ·rw[Xo Rr];have:lo=hi:=by lia
    subst this;exact wpS_pure ⟨rfl,lo,rfl,rfl,a2,a3,a4⟩
   ·rw[Xk Rr];have hm:lo+(hi-lo)/2<n:=by lia
    obtain⟨g1,g2⟩:=hg _ hm;refine wpS_bind (qx C hk h1 g2 g1 ?_);dsimp only;cases e:j8 lt l key (g (lo+(hi-lo)/2))with
    |true=>
     simp only[if_true];exact wpS_pure ⟨rfl,_,hi,rfl,by lia,a2,fun i XD=>dn i _ (by lia) hm e,a4,by lia⟩
    |false=>
     simp only[Bool.false_eq_true,if_false];exact wpS_pure ⟨rfl,lo,_,rfl,by lia,by lia,a3,fun i XD m4=>up _ i XD m4 e,by lia⟩
  ·rintro c aP ⟨rfl,lo,hi,rfl,a1,a2,a3,a4,a5⟩;have:lo=hi:=by lia
   subst this;exact⟨rfl,lo,rfl,rfl,a2,a3,a4⟩
  ·rintro⟨c1,c2,c3⟩ aP ⟨rfl,k,e1,e2,a2,a3,a4⟩;dsimp only at e1 e2⊢;subst e1 e2;exact wpS_pure (q _ a2 a3 a4)
 rw[ER];obtain⟨Uu,Uv⟩:=hg h hh;refine wpS_bind (qx C hk h1 Uv Uu ?_);dsimp only;cases e:j8 lt l key (g h)with
 |true=>
  simp only[if_true];refine wpS_bind (wpS_mono (wpS_forRange (I:=fun x c aP=>aP=st∧∃u v,c=(none,u,v)∧u<v∧h+u<n∧j8 lt l key (g (h+u))=true∧x<v) (Q:=fun c aP=>aP=st∧∃u v,c=(none,u,v)∧u<v∧h+u<n∧j8 lt l key (g (h+u))=true∧(n-h≤v∨(h+v<n∧j8 lt l key (g (h+v))=false))) ?_ ?_ ⟨rfl,0,1,rfl,by lia,by lia,e,by lia⟩) ?_)
  ·rintro x c aP _ hx ⟨rfl,u,v,rfl,a1,a2,a3,a4⟩;dsimp only;by_cases hv:v≥n-h
   ·rw[Xo hv];exact wpS_pure ⟨rfl,u,v,rfl,a1,a2,a3, .inl hv⟩
   ·rw[Xk hv];obtain⟨g1,g2⟩:=hg (h+v) (by lia);refine wpS_bind (qx C hk h1 g2 g1 ?_);dsimp only;cases e2:j8 lt l key (g (h+v))with
    |false=>
     simp only[Bool.not_false,if_true];exact wpS_pure ⟨rfl,u,v,rfl,a1,a2,a3, .inr ⟨by lia,e2⟩⟩
    |true=>
     simp only[Bool.not_true,Bool.false_eq_true,if_false];exact wpS_pure ⟨rfl,v,2*v+1,rfl,by lia,by lia,e2,by lia⟩
  ·rintro c aP ⟨rfl,u,v,rfl,a1,a2,a3,a4⟩;exact⟨rfl,u,v,rfl,a1,a2,a3, .inl Xv⟩
  ·rintro c aP ⟨rfl,u,v,rfl,a1,a2,a3,a4⟩;dsimp only;refine Eq.mp (by kernel_rfl) (bin (h+u+1) (h+min v (n-h)) (by lia) (by lia) (fun i hi=>dn i (h+u) (by lia) a2 a3) fun i hi m4=>?_);rcases a4 with a4|⟨a4,a5⟩
   ·lia
   ·exact up (h+v) i Xv m4 a5
 |false=>
  simp only[Bool.false_eq_true,if_false];refine wpS_bind (wpS_mono (wpS_forRange (I:=fun x c aP=>aP=st∧∃u v,c=(none,u,v)∧u<v∧u≤h∧j8 lt l key (g (h-u))=false∧x<v) (Q:=fun c aP=>aP=st∧∃u v,c=(none,u,v)∧u<v∧u≤h∧j8 lt l key (g (h-u))=false∧(h+1≤v∨(v≤h∧j8 lt l key (g (h-v))=true))) ?_ ?_ ⟨rfl,0,1,rfl,by lia,by lia,e,by lia⟩) ?_)
  ·rintro x c aP _ hx ⟨rfl,u,v,rfl,a1,a2,a3,a4⟩;dsimp only;by_cases hv:v≥h+1
   ·rw[Xo hv];exact wpS_pure ⟨rfl,u,v,rfl,a1,a2,a3, .inl hv⟩
   ·rw[Xk hv];obtain⟨g1,g2⟩:=hg (h-v) (by lia);refine wpS_bind (qx C hk h1 g2 g1 ?_);dsimp only;cases e2:j8 lt l key (g (h-v))with
    |true=>
     simp only[if_true];exact wpS_pure ⟨rfl,u,v,rfl,a1,a2,a3, .inr ⟨by lia,e2⟩⟩
    |false=>
     simp only[Bool.false_eq_true,if_false];exact wpS_pure ⟨rfl,v,2*v+1,rfl,by lia,by lia,e2,by lia⟩
  ·rintro c aP ⟨rfl,u,v,rfl,a1,a2,a3,a4⟩;exact⟨rfl,u,v,rfl,a1,a2,a3, .inl Xv⟩
  ·rintro c aP ⟨rfl,u,v,rfl,a1,a2,a3,a4⟩;dsimp only;refine Eq.mp (by kernel_rfl) (bin (h+1-min v (h+1)) (h-u) (by lia) (by lia) (fun i hi=>?_) fun i hi m4=>up (h-u) i Xv m4 a3);rcases a4 with a4|⟨a4,a5⟩
   ·lia
   ·exact dn i (h-v) (by lia) (by lia) a5
end
def setG(g:Nat):StateT SortSt Sem Unit:=modify fun st=>SortSt.mk' (kindOf st) (arrOf st) (pendingOf st) g (failedOf st)
def DN(a b out:Array Keyed)(i j:Nat):Array Keyed:=out++a.extract i a.size++b.extract j b.size
def JP(a b out:Array Keyed)(i j:Nat):Array Keyed:=out++b.extract j b.size++a.extract i a.size
abbrev S1:=Option (Array Keyed)×Array Keyed×Nat×Nat×Nat×Nat
abbrev S2:=Option (Array Keyed)×Array Keyed×Nat×Nat×Nat×Nat×Nat
abbrev S3:=Option (Array Keyed)×Array Keyed×Nat×Nat×Nat
def lo1(a b:Array Keyed)(mg:Nat)(c:S1):StateT SortSt Sem (ForInStep S1):=do
 let y←elem' b c.2.2.2.1
 let x←elem' a c.2.2.1
 let z←lt' y x
 match z with
 |some bw=>
  if bw=true then do
   let y←elem' b c.2.2.2.1
   if (c.2.2.2.1+1==b.size)=true then pure (.done (some (DN a b (c.2.1.push y) c.2.2.1 (c.2.2.2.1+1)),c.2.1.push y,c.2.2.1,c.2.2.2.1+1,0,c.2.2.2.2.2+1))
   else if c.2.2.2.2.2+1≥mg then pure (.done (none,c.2.1.push y,c.2.2.1,c.2.2.2.1+1,0,c.2.2.2.2.2+1))
   else pure (.yield (none,c.2.1.push y,c.2.2.1,c.2.2.2.1+1,0,c.2.2.2.2.2+1))
  else do
   let x←elem' a c.2.2.1
   if (c.2.2.1+1+1==a.size)=true then pure (.done (some (JP a b (c.2.1.push x) (c.2.2.1+1) c.2.2.2.1),c.2.1.push x,c.2.2.1+1,c.2.2.2.1,c.2.2.2.2.1+1,0))
   else if c.2.2.2.2.1+1≥mg then pure (.done (none,c.2.1.push x,c.2.2.1+1,c.2.2.2.1,c.2.2.2.2.1+1,0))
   else pure (.yield (none,c.2.1.push x,c.2.2.1+1,c.2.2.2.1,c.2.2.2.2.1+1,0))
 | _=>pure (.done (some (DN a b c.2.1 c.2.2.1 c.2.2.2.1),c.2.1,c.2.2.1,c.2.2.2.1,c.2.2.2.2.1,c.2.2.2.2.2))
def MZ(a b o:Array Keyed)(i j mg k l:Nat):StateT SortSt Sem (ForInStep S2):=do
 let x←elem' a i
 if (i+1+1==a.size)=true then pure (.done (some (JP a b (o.push x) (i+1) j),o.push x,i+1,j,mg,k,l))
 else if (decide (k<7)&&decide (l<7))=true then pure (.done (none,o.push x,i+1,j,mg,k,l))
 else pure (.yield (none,o.push x,i+1,j,mg,k,l))
def Pe(a b o:Array Keyed)(i j mg k bc:Nat):StateT SortSt Sem (ForInStep S2):=do
 let x←elem' a i
 let z←wC true x b j (b.size-j) 0
 match z with
 |some l=>if l>0 then(if (j+l==b.size)=true then pure (.done (some (DN a b (o++b.extract j (j+l)) i (j+l)),o++b.extract j (j+l),i,j+l,mg,k,l))else MZ a b (o++b.extract j (j+l)) i (j+l) mg k l)else MZ a b o i j mg k l
 | _=>pure (.done (some (DN a b o i j),o,i,j,mg,k,bc))
def M0(a b o:Array Keyed)(i j mg k bc:Nat):StateT SortSt Sem (ForInStep S2):=do
 let y←elem' b j
 if (j+1==b.size)=true then pure (.done (some (DN a b (o.push y) i (j+1)),o.push y,i,j+1,mg,k,bc))else Pe a b (o.push y) i (j+1) mg k bc
def M4(a b o:Array Keyed)(i j mg ac bc:Nat):StateT SortSt Sem (ForInStep S2):=do
 setG mg
 let y←elem' b j
 let z←wC false y a i (a.size-i) 0
 match z with
 |some k=>if k>0 then(if (i+k+1==a.size)=true then pure (.done (some (JP a b (o++a.extract i (i+k)) (i+k) j),o++a.extract i (i+k),i+k,j,mg,k,bc))else if (i+k==a.size)=true then pure (.done (some (DN a b (o++a.extract i (i+k)) (i+k) j),o++a.extract i (i+k),i+k,j,mg,k,bc))else M0 a b (o++a.extract i (i+k)) (i+k) j mg k bc)else M0 a b o i j mg k bc
 | _=>pure (.done (some (DN a b o i j),o,i,j,mg,ac,bc))
def Pf(a b:Array Keyed)(c:S2):StateT SortSt Sem (ForInStep S2):=if c.2.2.2.2.1>1 then M4 a b c.2.1 c.2.2.1 c.2.2.2.1 (c.2.2.2.2.1-1) c.2.2.2.2.2.1 c.2.2.2.2.2.2 else M4 a b c.2.1 c.2.2.1 c.2.2.2.1 c.2.2.2.2.1 c.2.2.2.2.2.1 c.2.2.2.2.2.2
def Pg(a b:Array Keyed)(c:S3):StateT SortSt Sem (ForInStep S3):=do
 let t←forIn [0:a.size+b.size] ((none,c.2.1,c.2.2.1,c.2.2.2.1,0,0):S1) (fun _=>lo1 a b c.2.2.2.2)
 match t.1 with
 |some r=>pure (.done (some r,t.2.1,t.2.2.1,t.2.2.2.1,c.2.2.2.2))
 |none=>do
  liftM (rule "list.sort.gallop")
  let u←forIn [0:a.size+b.size] ((none,t.2.1,t.2.2.1,t.2.2.2.1,c.2.2.2.2+1,t.2.2.2.2.1,t.2.2.2.2.2):S2) (fun _=>Pf a b)
  match u.1 with
  |some r=>pure (.done (some r,u.2.1,u.2.2.1,u.2.2.2.1,u.2.2.2.2.1))
  |none=>do
   setG (u.2.2.2.2.1+1)
   pure (.yield (none,u.2.1,u.2.2.1,u.2.2.2.1,u.2.2.2.2.1+1))
theorem ES(a b:Array Keyed):Ih a b=(do
 liftM (rule "list.sort.merge-lo")
 let y←elem' b 0
 if (1==b.size)=true then pure (DN a b #[y] 0 1)
 else if (0+1==a.size)=true then pure (JP a b #[y] 0 1)
 else do
  let g←get
  let t←forIn [0:a.size+b.size] ((none,#[y],0,1,gallopOf g):S3) (fun _=>Pg a b)
  match t.1 with
  |some r=>pure r
  |none=>unsupported "internal:list.sort.merge-bound"):=by kernel_rfl
def DO(a b o:Array Keyed)(i j:Nat):Array Keyed:=a.extract 0 i++b.extract 0 j++o.reverse
def JQ(a b o:Array Keyed)(i j:Nat):Array Keyed:=b.extract 0 j++a.extract 0 i++o.reverse
abbrev T1:=Option (Array Keyed)×Nat×Nat×Array Keyed×Nat×Nat
abbrev T2:=Option (Array Keyed)×Nat×Nat×Array Keyed×Nat×Nat×Nat
abbrev T3:=Option (Array Keyed)×Nat×Nat×Array Keyed×Nat
def Ph(a b:Array Keyed)(mg:Nat)(c:T1):StateT SortSt Sem (ForInStep T1):=do
 let y←elem' b (c.2.2.1-1)
 let x←elem' a (c.2.1-1)
 let z←lt' y x
 match z with
 |some aw=>
  if aw=true then do
   let x←elem' a (c.2.1-1)
   if (c.2.1-1==0)=true then pure (.done (some (DO a b (c.2.2.2.1.push x) (c.2.1-1) c.2.2.1),c.2.1-1,c.2.2.1,c.2.2.2.1.push x,c.2.2.2.2.1+1,0))
   else if c.2.2.2.2.1+1≥mg then pure (.done (none,c.2.1-1,c.2.2.1,c.2.2.2.1.push x,c.2.2.2.2.1+1,0))
   else pure (.yield (none,c.2.1-1,c.2.2.1,c.2.2.2.1.push x,c.2.2.2.2.1+1,0))
  else do
   let y←elem' b (c.2.2.1-1)
   if (c.2.2.1-1==1)=true then pure (.done (some (JQ a b (c.2.2.2.1.push y) c.2.1 (c.2.2.1-1)),c.2.1,c.2.2.1-1,c.2.2.2.1.push y,0,c.2.2.2.2.2+1))
   else if c.2.2.2.2.2+1≥mg then pure (.done (none,c.2.1,c.2.2.1-1,c.2.2.2.1.push y,0,c.2.2.2.2.2+1))
   else pure (.yield (none,c.2.1,c.2.2.1-1,c.2.2.2.1.push y,0,c.2.2.2.2.2+1))
 | _=>pure (.done (some (DO a b c.2.2.2.1 c.2.1 c.2.2.1),c.2.1,c.2.2.1,c.2.2.2.1,c.2.2.2.2.1,c.2.2.2.2.2))
def M5(a b o:Array Keyed)(i j mg k l:Nat):StateT SortSt Sem (ForInStep T2):=do
 let x←elem' a (i-1)
 if (i-1==0)=true then pure (.done (some (DO a b (o.push x) (i-1) j),i-1,j,o.push x,mg,k,l))
 else if (decide (k<7)&&decide (l<7))=true then pure (.done (none,i-1,j,o.push x,mg,k,l))
 else pure (.yield (none,i-1,j,o.push x,mg,k,l))
def Pj(a b o:Array Keyed)(i j mg k bc:Nat):StateT SortSt Sem (ForInStep T2):=do
 let x←elem' a (i-1)
 let z←wC true x b 0 j (j-1)
 match z with
 |some t=>if j-t>0 then(if (t==1)=true then pure (.done (some (JQ a b (o++(b.extract t j).reverse) i t),i,t,o++(b.extract t j).reverse,mg,k,j-t))else if (t==0)=true then pure (.done (some (DO a b (o++(b.extract t j).reverse) i t),i,t,o++(b.extract t j).reverse,mg,k,j-t))else M5 a b (o++(b.extract t j).reverse) i t mg k (j-t))else M5 a b o i j mg k (j-t)
 | _=>pure (.done (some (DO a b o i j),i,j,o,mg,k,bc))
def M6(a b o:Array Keyed)(i j mg k bc:Nat):StateT SortSt Sem (ForInStep T2):=do
 let y←elem' b (j-1)
 if (j-1==1)=true then pure (.done (some (JQ a b (o.push y) i (j-1)),i,j-1,o.push y,mg,k,bc))else Pj a b (o.push y) i (j-1) mg k bc
def DP(a b o:Array Keyed)(i j mg ac bc:Nat):StateT SortSt Sem (ForInStep T2):=do
 setG mg
 let y←elem' b (j-1)
 let z←wC false y a 0 i (i-1)
 match z with
 |some t=>if i-t>0 then(if (t==0)=true then pure (.done (some (DO a b (o++(a.extract t i).reverse) t j),t,j,o++(a.extract t i).reverse,mg,i-t,bc))else M6 a b (o++(a.extract t i).reverse) t j mg (i-t) bc)else M6 a b o i j mg (i-t) bc
 | _=>pure (.done (some (DO a b o i j),i,j,o,mg,ac,bc))
def Pk(a b:Array Keyed)(c:T2):StateT SortSt Sem (ForInStep T2):=if c.2.2.2.2.1>1 then DP a b c.2.2.2.1 c.2.1 c.2.2.1 (c.2.2.2.2.1-1) c.2.2.2.2.2.1 c.2.2.2.2.2.2 else DP a b c.2.2.2.1 c.2.1 c.2.2.1 c.2.2.2.2.1 c.2.2.2.2.2.1 c.2.2.2.2.2.2
def Pl(a b:Array Keyed)(c:T3):StateT SortSt Sem (ForInStep T3):=do
 let t←forIn [0:a.size+b.size] ((none,c.2.1,c.2.2.1,c.2.2.2.1,0,0):T1) (fun _=>Ph a b c.2.2.2.2)
 match t.1 with
 |some r=>pure (.done (some r,t.2.1,t.2.2.1,t.2.2.2.1,c.2.2.2.2))
 |none=>do
  liftM (rule "list.sort.gallop")
  let u←forIn [0:a.size+b.size] ((none,t.2.1,t.2.2.1,t.2.2.2.1,c.2.2.2.2+1,t.2.2.2.2.1,t.2.2.2.2.2):T2) (fun _=>Pk a b)
  match u.1 with
  |some r=>pure (.done (some r,u.2.1,u.2.2.1,u.2.2.2.1,u.2.2.2.2.1))
  |none=>do
   setG (u.2.2.2.2.1+1)
   pure (.yield (none,u.2.1,u.2.2.1,u.2.2.2.1,u.2.2.2.2.1+1))
theorem ET(a b:Array Keyed):Ii a b=(do
 liftM (rule "list.sort.merge-hi")
 let x←elem' a (a.size-1)
 if (a.size-1==0)=true then pure (DO a b #[x] (a.size-1) b.size)
 else if (b.size==1)=true then pure (JQ a b #[x] (a.size-1) b.size)
 else do
  let g←get
  let t←forIn [0:a.size+b.size] ((none,a.size-1,b.size,#[x],gallopOf g):T3) (fun _=>Pl a b)
  match t.1 with
  |some r=>pure r
  |none=>unsupported "internal:list.sort.merge-bound"):=by kernel_rfl
theorem kz{α:Type}{l:List α}{i:Nat}{x:α}:x∈l.drop i↔∃t:Nat,l[i+t]?=some x:=by
 rw[List.mem_iff_getElem?];simp only[List.getElem?_drop]
theorem qS{α:Type}{l:List α}{i k:Nat}{x:α}:x∈(l.drop i).take k↔∃t:Nat,t<k∧l[i+t]?=some x:=by
 rw[List.mem_iff_getElem?];constructor
 ·rintro⟨t,ht⟩;rw[List.getElem?_take]at ht;split at ht
  ·rw[List.getElem?_drop]at ht;exact⟨t,by assumption,ht⟩
  ·cases ht
 ·rintro⟨t,h1,h2⟩;exact⟨t,by rw[List.getElem?_take,Xo h1,List.getElem?_drop];exact h2⟩
theorem nj{α:Type}{l:List α}{i:Nat}{x:α}(h:l[i]?=some x):l.drop i=x::l.drop (i+1):=by
 obtain⟨h1,h2⟩:=Xd h;rw[List.drop_eq_getElem_cons h1,h2]
theorem nk{α:Type}(l:List α)(i k:Nat):l.drop i=(l.drop i).take k++l.drop (i+k):=by
 rw[←List.drop_drop,List.take_append_drop]
abbrev Pw(lt:Keyed→Keyed→Bool)(l:List Keyed):Prop:=l.Pairwise fun x y=>lt x y=true
theorem Pw.at{lt:Keyed→Keyed→Bool}{l:List Keyed}(h:Pw lt l){i j:Nat}{x y:Keyed}(r6:i<j)(hx:l[i]?=some x)(hy:l[j]?=some y):lt x y=true:=by
 obtain⟨h1,e1⟩:=Xd hx;obtain⟨h2,e2⟩:=Xd hy;have:=List.pairwise_iff_getElem.mp h i j h1 h2 r6;rw[e1,e2]at this;exact this
section
variable{X:List Keyed}{lt:Keyed→Keyed→Bool}{P Q:List Keyed}
structure MC(X:List Keyed)(lt:Keyed→Keyed→Bool)(P Q:List Keyed):Prop where
 sa:Pw lt P
 sb:Pw lt Q
 ia:∀x∈P,x∈X
 ib:∀x∈Q,x∈X
 ne:∀x∈P,∀y∈Q,x≠y
 fst:∀x∈P,∀y,Q[0]?=some y→lt y x=true
 lst:∀y∈Q,∀x,P[P.length-1]?=some x→lt y x=true
structure ML(lt:Keyed→Keyed→Bool)(P Q O:List Keyed)(i j:Nat):Prop where
 hi:i≤P.length
 hj:j≤Q.length
 qT:Pw lt O
 low:∀x∈O,∀y,y∈P.drop i∨y∈Q.drop j→lt x y=true
 EU:(O++(P.drop i++Q.drop j)).Perm (P++Q)
def MG(lt:Keyed→Keyed→Bool)(P Q R:List Keyed):Prop:=R.Perm (P++Q)∧Pw lt R
theorem ML.a{O:List Keyed}{i j k:Nat}(M:MC X lt P Q)(m:ML lt P Q O i j)(hk:i+k≤P.length)(h:∀x∈(P.drop i).take k,∀y∈Q.drop j,lt x y=true):ML lt P Q (O++(P.drop i).take k) (i+k) j:=by
 have sp:=nk P i k;have sd:Pw lt (P.drop i):=M.sa.sublist (List.drop_sublist _ _);rw[sp]at sd;obtain⟨s1,s2,s3⟩:=List.pairwise_append.mp sd;refine⟨hk,m.hj,List.pairwise_append.mpr ⟨m.qT,s1,fun x hx y hy=>m.low x hx y (.inl (List.mem_of_mem_take hy))⟩,fun x hx y hy=>?_,?_⟩
 ·rcases List.mem_append.mp hx with hx|hx
  ·exact m.low x hx y (hy.imp (fun z=>by rw[sp];exact List.mem_append_right _ z) id)
  ·rcases hy with hy|hy
   ·exact s3 x hx y hy
   ·exact h x hx y hy
 ·have:=m.EU;rw[sp]at this;rw[List.append_assoc,←List.append_assoc ((P.drop i).take k)];exact this
theorem ML.b{O:List Keyed}{i j k:Nat}(M:MC X lt P Q)(m:ML lt P Q O i j)(hk:j+k≤Q.length)(h:∀y∈(Q.drop j).take k,∀x∈P.drop i,lt y x=true):ML lt P Q (O++(Q.drop j).take k) i (j+k):=by
 have sp:=nk Q j k;have sd:Pw lt (Q.drop j):=M.sb.sublist (List.drop_sublist _ _);rw[sp]at sd;obtain⟨s1,s2,s3⟩:=List.pairwise_append.mp sd;refine⟨m.hi,hk,List.pairwise_append.mpr ⟨m.qT,s1,fun x hx y hy=>m.low x hx y (.inr (List.mem_of_mem_take hy))⟩,fun x hx y hy=>?_,?_⟩
 ·rcases List.mem_append.mp hx with hx|hx
  ·exact m.low x hx y (hy.imp id (fun z=>by rw[sp];exact List.mem_append_right _ z))
  ·rcases hy with hy|hy
   ·exact h x hx y hy
   ·exact s3 x hx y hy
 ·have:=m.EU;rw[sp]at this;refine List.Perm.trans ?_ this;rw[List.append_assoc];refine List.Perm.append_left O ?_;rw[←List.append_assoc,←List.append_assoc];exact List.Perm.append_right _ List.perm_append_comm
theorem ML.dn{O:List Keyed}{i j:Nat}(M:MC X lt P Q)(m:ML lt P Q O i j)(h:i=P.length∨j=Q.length):MG lt P Q (O++P.drop i++Q.drop j):=by
 refine⟨by rw[List.append_assoc];exact m.EU,?_⟩;have sa:Pw lt (P.drop i):=M.sa.sublist (List.drop_sublist _ _);have sb:Pw lt (Q.drop j):=M.sb.sublist (List.drop_sublist _ _);rw[List.append_assoc];refine List.pairwise_append.mpr ⟨m.qT,List.pairwise_append.mpr ⟨sa,sb,fun x hx y hy=>?_⟩,fun x hx y hy=>m.low x hx y (List.mem_append.mp hy)⟩;rcases h with h|h
 ·rw[h,List.drop_length]at hx;cases hx
 ·rw[h,List.drop_length]at hy;cases hy
theorem ML.ls{O:List Keyed}{i j:Nat}(M:MC X lt P Q)(m:ML lt P Q O i j)(h:i+1=P.length):MG lt P Q (O++Q.drop j++P.drop i):=by
 have sa:Pw lt (P.drop i):=M.sa.sublist (List.drop_sublist _ _);have sb:Pw lt (Q.drop j):=M.sb.sublist (List.drop_sublist _ _);rw[List.append_assoc];refine⟨(List.Perm.append_left O List.perm_append_comm).trans m.EU,List.pairwise_append.mpr ⟨m.qT,List.pairwise_append.mpr ⟨sb,sa,fun y hy x hx=>?_⟩,fun x hx y hy=>m.low x hx y (List.mem_append.mp hy).symm⟩⟩;obtain⟨t,ht⟩:=kz.mp hx;have hl:=(Xd ht).1;exact M.lst y (List.mem_of_mem_drop hy) x (by rw[←ht];congr 1;lia)
end
def Eg(st aP:SortSt):Prop:=kindOf aP=kindOf st∧arrOf aP=arrOf st∧pendingOf aP=pendingOf st∧failedOf aP=failedOf st
theorem Eg.refl(st:SortSt):Eg st st:=⟨rfl,rfl,rfl,rfl⟩
theorem Eg.trans{a b c:SortSt}(h:Eg a b)(k:Eg b c):Eg a c:=⟨k.1.trans h.1,k.2.1.trans h.2.1,k.2.2.1.trans h.2.2.1,k.2.2.2.trans h.2.2.2⟩
section
variable{prog:Program}{w:World}{A:Around}{E:Value→Shared→Prop}{s:Shared}{X:List Keyed}{κ:SortKind}{lt:Keyed→Keyed→Bool}(C:CI prog w A s X κ lt){a b:Array Keyed}(M:MC X lt a.toList b.toList)
theorem qy{st:SortSt}{g:Nat}{Q:Unit→SortSt→Prop}(h:∀aP,Eg st aP→Q () aP):wpS (model prog w) A E s (setG g) Q st:=wpS_modify (h _ ⟨rfl,rfl,rfl,rfl⟩)
theorem wD(o:Array Keyed)(i j:Nat):(DN a b o i j).toList=o.toList++a.toList.drop i++b.toList.drop j:=by
 unfold DN;simp[Array.toList_extract,List.extract_eq_take_drop];rw[List.take_of_length_le Xr,List.take_of_length_le Xr]
theorem Y4(o:Array Keyed)(i j:Nat):(JP a b o i j).toList=o.toList++b.toList.drop j++a.toList.drop i:=by
 unfold JP;simp[Array.toList_extract,List.extract_eq_take_drop];rw[List.take_of_length_le Xr,List.take_of_length_le Xr]
theorem Ge(o:Array Keyed)(c:Array Keyed)(i k:Nat):(o++c.extract i (i+k)).toList=o.toList++(c.toList.drop i).take k:=by
 simp[Array.toList_extract,List.extract_eq_take_drop]
theorem DQ{l:List Keyed}{i:Nat}{x:Keyed}(h:l[i]?=some x):(l.drop i).take 1=[x]:=by rw[nj h];simp
def XI(lt:Keyed→Keyed→Bool)(a b:Array Keyed)(o:Array Keyed)(i j m:Nat):Prop:=ML lt a.toList b.toList o.toList i j∧i+1<a.size∧j<b.size∧m≤i+j
def P2(lt:Keyed→Keyed→Bool)(a b:Array Keyed)(m:Nat)(st:SortSt)(r:ForInStep S2)(aP:SortSt):Prop:=Eg st aP∧match r with
 | .done c=>(∃x,c.1=some x∧MG lt a.toList b.toList x.toList)∨(c.1=none∧XI lt a b c.2.1 c.2.2.1 c.2.2.2.1 m)
 | .yield c=>c.1=none∧XI lt a b c.2.1 c.2.2.1 c.2.2.2.1 m
include C M
theorem CJ{st:SortSt}{o:Array Keyed}{i j mg k l m:Nat}(ml:ML lt a.toList b.toList o.toList i j)(hi:i+1<a.size)(hj:j<b.size)(hm:m≤i+j+1)(h:∀x,a.toList[i]?=some x→∀y∈b.toList.drop j,lt x y=true):wpS (model prog w) A E s (MZ a b o i j mg k l) (P2 lt a b m st) st:=by
 unfold MZ;have ex:a[i]?=some a[i]:=XA;have fW:a.toList[i]?=some a[i]:=by rw[Array.getElem?_toList];exact ex
 refine wpS_bind (d_ ex ?_);have m2:ML lt a.toList b.toList (o.push a[i]).toList (i+1) j:=by
  have:=ml.a M (k:=1) (by simp;lia) (fun x hx y hy=>by
   rw[DQ fW]at hx;have:x=a[i]:=by simpa using hx
   rw[this];exact h _ fW y hy)
  rw[DQ fW]at this;rw[Array.toList_push];exact this
 by_cases e:(i+1+1==a.size)=true
 ·rw[Xo e];refine wpS_pure ⟨.refl _, .inl ⟨_,rfl,?_⟩⟩;rw[Y4];exact m2.ls M (by have:=beq_iff_eq.mp e;simp;lia)
 ·rw[Xk e];have e:i+1+1≠a.size:=fun z=>e (beq_iff_eq.mpr z)
  split
  ·exact wpS_pure ⟨.refl _, .inr ⟨rfl,m2,by show i+1+1<a.size;lia,hj,by show m≤i+1+j;lia⟩⟩
  ·exact wpS_pure ⟨.refl _,rfl,m2,by show i+1+1<a.size;lia,hj,by show m≤i+1+j;lia⟩
theorem Ij{st:SortSt}{o:Array Keyed}{i j mg k bc m:Nat}(hk:kindOf st=κ)(ml:ML lt a.toList b.toList o.toList i j)(hi:i+1<a.size)(hj:j<b.size)(hm:m≤i+j+1):wpS (model prog w) A E s (Pe a b o i j mg k bc) (P2 lt a b m st) st:=by
 unfold Pe;have ex:a[i]?=some a[i]:=XA;have fW:a.toList[i]?=some a[i]:=by rw[Array.getElem?_toList];exact ex
 have hx:a[i]∈a.toList:=Xi fW;refine wpS_bind (d_ ex ?_);generalize a[i]=x at ex fW hx;have gb:∀t,t<b.size-j→b[j+t]?=some (b.getD (j+t) (.none, .none)):=fun t ht=>by simp[show j+t<b.size by lia]
 have p8:∀t,t<b.size-j→b.toList[j+t]?=some (b.getD (j+t) (.none, .none)):=fun t ht=>by rw[Array.getElem?_toList];exact gb t ht
 refine wpS_bind (oV C (fun t=>b.getD (j+t) (.none, .none)) hk (M.ia _ hx) (fun t ht=>⟨gb t ht,M.ib _ (Xi (p8 t ht))⟩) (fun t u h1 h2=>M.sb.at (i:=j+t) (j:=j+u) (by lia) (p8 t (by lia)) (p8 u h2)) (by lia) fun l hl h1 h2=>?_);dsimp only;have low:∀y∈(b.toList.drop j).take l,∀z∈a.toList.drop i,lt y z=true:=fun y hy z hz=>by
  obtain⟨t,ht,et⟩:=qS.mp hy;rw[p8 t (by lia)]at et;cases et;have hb:=h1 t ht;simp only[j8,if_true]at hb;rw[nj fW]at hz;rcases List.mem_cons.mp hz with rfl|hz
  ·exact hb
  ·obtain⟨u,hu⟩:=kz.mp hz;exact C.tr _ (M.ib _ (Xi (p8 t (by lia)))) _ (M.ia _ hx) _ (M.ia _ (Xi hu)) hb (M.sa.at Xv fW hu)
 have X0:∀y∈b.toList.drop (j+l),lt x y=true:=fun y hy=>by
  obtain⟨t,ht⟩:=kz.mp hy;have gT:=(Xd ht).1;have gT:j+l+t<b.size:=by simpa using gT
  have hb:=h2 (l+t) (by lia) (by lia);have e:b.toList[j+(l+t)]?=some y:=by rw[←Nat.add_assoc];exact ht
  rw[p8 (l+t) (by lia)]at e;have e:=Option.some.inj e;simp only[j8,if_true]at hb;rw[e]at hb;exact C.no (M.ib _ (Xi ht)) (M.ia _ hx) (fun z=>M.ne _ hx _ (Xi ht) z.symm) hb
 have m2:ML lt a.toList b.toList (o++b.extract j (j+l)).toList i (j+l):=by
  rw[Ge];exact ml.b M (by simp;lia) low
 by_cases Ik:l>0
 ·rw[Xo Ik];by_cases e:(j+l==b.size)=true
  ·rw[Xo e];refine wpS_pure ⟨.refl _, .inl ⟨_,rfl,?_⟩⟩;rw[wD];exact m2.dn M (.inr (by have:=beq_iff_eq.mp e;simpa using this))
  ·rw[Xk e];have e:j+l≠b.size:=fun z=>e (beq_iff_eq.mpr z)
   exact CJ C M m2 hi Xv (by lia) fun y hy=>by rw[fW]at hy;cases hy;exact X0
 ·rw[Xk Ik];have:l=0:=by lia
  subst this;exact CJ C M ml hi hj hm fun y hy=>by rw[fW]at hy;cases hy;exact X0
theorem CK{st:SortSt}{o:Array Keyed}{i j mg k bc m:Nat}(hk:kindOf st=κ)(ml:ML lt a.toList b.toList o.toList i j)(hi:i+1<a.size)(hj:j<b.size)(hm:m≤i+j+2)(h:∀y,b.toList[j]?=some y→∀x∈a.toList.drop i,lt y x=true):wpS (model prog w) A E s (M0 a b o i j mg k bc) (P2 lt a b m st) st:=by
 unfold M0;have ex:b[j]?=some b[j]:=XA;have fW:b.toList[j]?=some b[j]:=by rw[Array.getElem?_toList];exact ex
 refine wpS_bind (d_ ex ?_);have m2:ML lt a.toList b.toList (o.push b[j]).toList i (j+1):=by
  have:=ml.b M (k:=1) (by simp;lia) (fun x hx y hy=>by
   rw[DQ fW]at hx;have:x=b[j]:=by simpa using hx
   rw[this];exact h _ fW y hy)
  rw[DQ fW]at this;rw[Array.toList_push];exact this
 by_cases e:(j+1==b.size)=true
 ·rw[Xo e];refine wpS_pure ⟨.refl _, .inl ⟨_,rfl,?_⟩⟩;rw[wD];exact m2.dn M (.inr (by have:=beq_iff_eq.mp e;simpa using this))
 ·rw[Xk e];have e:j+1≠b.size:=fun z=>e (beq_iff_eq.mpr z)
  exact Ij C M hk m2 hi Xv (by lia)
theorem CL{st:SortSt}{o:Array Keyed}{i j mg ac bc m:Nat}(hk:kindOf st=κ)(h:XI lt a b o i j m):wpS (model prog w) A E s (M4 a b o i j mg ac bc) (P2 lt a b (m+2) st) st:=by
 obtain⟨ml,hi,hj,hm⟩:=h;unfold M4;refine wpS_bind (qy fun X9 eg=>?_);have Gf:kindOf X9=κ:=eg.1.trans hk;have fin:∀{m:Nat}{p:StateT SortSt Sem (ForInStep S2)},wpS (model prog w) A E s p (P2 lt a b m X9) X9→wpS (model prog w) A E s p (P2 lt a b m st) X9:=fun h=>wpS_mono h fun r aP z=>⟨eg.trans z.1,z.2⟩
 refine fin ?_;have ex:b[j]?=some b[j]:=XA;have fW:b.toList[j]?=some b[j]:=by rw[Array.getElem?_toList];exact ex
 have hx:b[j]∈b.toList:=Xi fW;refine wpS_bind (d_ ex ?_);generalize b[j]=y at ex fW hx;have gb:∀t,t<a.size-i→a[i+t]?=some (a.getD (i+t) (.none, .none)):=fun t ht=>by simp[show i+t<a.size by lia]
 have p8:∀t,t<a.size-i→a.toList[i+t]?=some (a.getD (i+t) (.none, .none)):=fun t ht=>by rw[Array.getElem?_toList];exact gb t ht
 refine wpS_bind (oV C (fun t=>a.getD (i+t) (.none, .none)) Gf (M.ib _ hx) (fun t ht=>⟨gb t ht,M.ia _ (Xi (p8 t ht))⟩) (fun t u h1 h2=>M.sa.at (i:=i+t) (j:=i+u) (by lia) (p8 t (by lia)) (p8 u h2)) (by lia) fun k hl h1 h2=>?_);dsimp only;have low:∀x∈(a.toList.drop i).take k,∀z∈b.toList.drop j,lt x z=true:=fun x r9 z hz=>by
  obtain⟨t,ht,et⟩:=qS.mp r9;rw[p8 t (by lia)]at et;cases et;have ip:=Xi (p8 t (by lia));have hb:=h1 t ht;simp only[j8,Bool.false_eq_true,if_false,Bool.not_eq_true']at hb;have hb:=C.no (M.ib _ hx) (M.ia _ ip) (fun z=>M.ne _ ip _ hx z.symm) hb;rw[nj fW]at hz;rcases List.mem_cons.mp hz with rfl|hz
  ·exact hb
  ·obtain⟨u,hu⟩:=kz.mp hz;exact C.tr _ (M.ia _ ip) _ (M.ib _ hx) _ (M.ib _ (Xi hu)) hb (M.sb.at Xv fW hu)
 have X0:∀x∈a.toList.drop (i+k),lt y x=true:=fun x r9=>by
  obtain⟨t,ht⟩:=kz.mp r9;have gT:=(Xd ht).1;have gT:i+k+t<a.size:=by simpa using gT
  have hb:=h2 (k+t) (by lia) (by lia);have e:a.toList[i+(k+t)]?=some x:=by rw[←Nat.add_assoc];exact ht
  rw[p8 (k+t) (by lia)]at e;have e:=Option.some.inj e;simp only[j8,Bool.false_eq_true,if_false,Bool.not_eq_false']at hb;rw[e]at hb;exact hb
 have m2:ML lt a.toList b.toList (o++a.extract i (i+k)).toList (i+k) j:=by
  rw[Ge];exact ml.a M (by simp;lia) low
 by_cases AM:k>0
 ·rw[Xo AM];by_cases e:(i+k+1==a.size)=true
  ·rw[Xo e];refine wpS_pure ⟨.refl _, .inl ⟨_,rfl,?_⟩⟩;rw[Y4];exact m2.ls M (by have:=beq_iff_eq.mp e;simpa using this)
  ·rw[Xk e];have e:i+k+1≠a.size:=fun z=>e (beq_iff_eq.mpr z)
   by_cases e2:(i+k==a.size)=true
   ·rw[Xo e2];refine wpS_pure ⟨.refl _, .inl ⟨_,rfl,?_⟩⟩;rw[wD];exact m2.dn M (.inl (by have:=beq_iff_eq.mp e2;simpa using this))
   ·rw[Xk e2];have e2:i+k≠a.size:=fun z=>e2 (beq_iff_eq.mpr z)
    exact CK C M Gf m2 Xv hj Xv fun z hz=>by rw[fW]at hz;cases hz;exact X0
 ·rw[Xk AM];have:k=0:=by lia
  subst this;exact CK C M Gf ml hi hj Xv fun z hz=>by rw[fW]at hz;cases hz;exact X0
theorem Il{st:SortSt}{c:S2}{m:Nat}(hk:kindOf st=κ)(h:XI lt a b c.2.1 c.2.2.1 c.2.2.2.1 m):wpS (model prog w) A E s (Pf a b c) (P2 lt a b (m+2) st) st:=by
 unfold Pf;split
 ·exact CL C M hk h
 ·exact CL C M hk h
theorem Im{st:SortSt}{c:S1}{mg m:Nat}(hk:kindOf st=κ)(h:XI lt a b c.2.1 c.2.2.1 c.2.2.2.1 m):wpS (model prog w) A E s (lo1 a b mg c) (fun r aP=>aP=st∧match r with
  | .done c=>(∃x,c.1=some x∧MG lt a.toList b.toList x.toList)∨(c.1=none∧XI lt a b c.2.1 c.2.2.1 c.2.2.2.1 (m+1))
  | .yield c=>c.1=none∧XI lt a b c.2.1 c.2.2.1 c.2.2.2.1 (m+1)) st:=by
 obtain⟨r,o,i,j,ac,bc⟩:=c;obtain⟨ml,hi,hj,hm⟩:=h;dsimp only at ml hi hj hm;unfold lo1;dsimp only;have ex:a[i]?=some a[i]:=XA;have fW:a.toList[i]?=some a[i]:=by rw[Array.getElem?_toList];exact ex
 have ey:b[j]?=some b[j]:=XA;have X':b.toList[j]?=some b[j]:=by rw[Array.getElem?_toList];exact ey
 have hx:a[i]∈a.toList:=Xi fW;have hy:b[j]∈b.toList:=Xi X';refine wpS_bind (d_ ey (wpS_bind (d_ ex ?_)));generalize a[i]=x at ex fW hx;generalize b[j]=y at ey X' hy;refine wpS_bind (C.ask hk (M.ib _ hy) (M.ia _ hx) ?_);dsimp only;cases e:lt y x with
 |true=>
  rw[if_pos rfl];refine wpS_bind (d_ ey ?_);have m2:ML lt a.toList b.toList (o.push y).toList i (j+1):=by
   have:=ml.b M (k:=1) (by simp;lia) (fun y' LA z hz=>by
    rw[DQ X']at LA;have:y'=y:=by simpa using LA
    rw[this];rw[nj fW]at hz;rcases List.mem_cons.mp hz with rfl|hz
    ·exact e
    ·obtain⟨u,hu⟩:=kz.mp hz;exact C.tr _ (M.ib _ hy) _ (M.ia _ hx) _ (M.ia _ (Xi hu)) e (M.sa.at Xv fW hu))
   rw[DQ X']at this;rw[Array.toList_push];exact this
  by_cases e2:(j+1==b.size)=true
  ·rw[Xo e2];refine wpS_pure ⟨rfl, .inl ⟨_,rfl,?_⟩⟩;rw[wD];exact m2.dn M (.inr (by have:=beq_iff_eq.mp e2;simpa using this))
  ·rw[Xk e2];have e2:j+1≠b.size:=fun z=>e2 (beq_iff_eq.mpr z)
   split
   ·exact wpS_pure ⟨rfl, .inr ⟨rfl,m2,hi,by show j+1<b.size;lia,by show m+1≤i+(j+1);lia⟩⟩
   ·exact wpS_pure ⟨rfl,rfl,m2,hi,by show j+1<b.size;lia,by show m+1≤i+(j+1);lia⟩
 |false=>
  rw[if_neg Xr];refine wpS_bind (d_ ex ?_);have e:=C.no (M.ib _ hy) (M.ia _ hx) (fun z=>M.ne _ hx _ hy z.symm) e;have m2:ML lt a.toList b.toList (o.push x).toList (i+1) j:=by
   have:=ml.a M (k:=1) (by simp;lia) (fun x' r9 z hz=>by
    rw[DQ fW]at r9;have:x'=x:=by simpa using r9
    rw[this];rw[nj X']at hz;rcases List.mem_cons.mp hz with rfl|hz
    ·exact e
    ·obtain⟨u,hu⟩:=kz.mp hz;exact C.tr _ (M.ia _ hx) _ (M.ib _ hy) _ (M.ib _ (Xi hu)) e (M.sb.at Xv X' hu))
   rw[DQ fW]at this;rw[Array.toList_push];exact this
  by_cases e2:(i+1+1==a.size)=true
  ·rw[Xo e2];refine wpS_pure ⟨rfl, .inl ⟨_,rfl,?_⟩⟩;rw[Y4];exact m2.ls M (by have:=beq_iff_eq.mp e2;simpa using this)
  ·rw[Xk e2];have e2:i+1+1≠a.size:=fun z=>e2 (beq_iff_eq.mpr z)
   split
   ·exact wpS_pure ⟨rfl, .inr ⟨rfl,m2,by show i+1+1<a.size;lia,hj,by show m+1≤i+1+j;lia⟩⟩
   ·exact wpS_pure ⟨rfl,rfl,m2,by show i+1+1<a.size;lia,hj,by show m+1≤i+1+j;lia⟩
theorem Io{st:SortSt}{c:S3}{m:Nat}(hk:kindOf st=κ)(h:XI lt a b c.2.1 c.2.2.1 c.2.2.2.1 m):wpS (model prog w) A E s (Pg a b c) (fun r aP=>Eg st aP∧match r with
  | .done c=>∃x,c.1=some x∧MG lt a.toList b.toList x.toList
  | .yield c=>c.1=none∧XI lt a b c.2.1 c.2.2.1 c.2.2.2.1 (m+1)) st:=by
 unfold Pg;refine wpS_bind (wpS_mono (wpS_forRange (I:=fun x c aP=>aP=st∧c.1=none∧XI lt a b c.2.1 c.2.2.1 c.2.2.2.1 (m+x)) (Q:=fun c aP=>aP=st∧((∃x,c.1=some x∧MG lt a.toList b.toList x.toList)∨(c.1=none∧XI lt a b c.2.1 c.2.2.1 c.2.2.2.1 (m+1)))) ?_ ?_ ⟨rfl,rfl,h⟩) ?_)
 ·rintro x c aP _ hx ⟨rfl,hc,hI⟩;refine wpS_mono (Im C M hk hI) fun r aP hr=>?_
  obtain⟨rfl,hr⟩:=hr;cases r with
  |done c=>exact⟨rfl,hr.imp id fun z=>⟨z.1,z.2.1,z.2.2.1,z.2.2.2.1,by have:=z.2.2.2.2;lia⟩⟩
  |yield c=>exact⟨rfl,hr.1,hr.2⟩
 ·rintro c aP ⟨rfl,hc,h1,h2,h3,h4⟩
  lia
 rintro t aP ⟨rfl,ht⟩;rcases ht with⟨x,e,hg⟩|⟨e,hI⟩
 ·rw[e];exact wpS_pure ⟨.refl _,x,rfl,hg⟩
 rw[e];dsimp only;refine wpS_bind (wpS_lift (wpAny_rule ⟨rfl,?_⟩));refine wpS_bind (wpS_mono (wpS_forRange (I:=fun x c dq=>Eg aP dq∧c.1=none∧XI lt a b c.2.1 c.2.2.1 c.2.2.2.1 (m+1+x)) (Q:=fun c dq=>Eg aP dq∧((∃x,c.1=some x∧MG lt a.toList b.toList x.toList)∨(c.1=none∧XI lt a b c.2.1 c.2.2.1 c.2.2.2.1 (m+1)))) ?_ ?_ ⟨.refl _,rfl,hI⟩) ?_)
 ·rintro x c dq _ hx ⟨eg,hc,hI⟩;refine wpS_mono (Il C M (eg.1.trans hk) hI) fun r BG hr=>?_
  obtain⟨CM,hr⟩:=hr;cases r with
  |done c=>exact⟨eg.trans CM,hr.imp id fun z=>⟨z.1,z.2.1,z.2.2.1,z.2.2.2.1,by have:=z.2.2.2.2;lia⟩⟩
  |yield c=>exact⟨eg.trans CM,hr.1,hr.2.1,hr.2.2.1,hr.2.2.2.1,by have:=hr.2.2.2.2;lia⟩
 ·rintro c dq ⟨eg,hc,h1,h2,h3,h4⟩
  lia
 rintro u dq ⟨eg,hu⟩;rcases hu with⟨x,e,hg⟩|⟨e,hI⟩
 ·rw[e];exact wpS_pure ⟨eg,x,rfl,hg⟩
 rw[e];dsimp only;exact wpS_bind (qy fun BG Pn=>wpS_pure ⟨eg.trans Pn,rfl,hI⟩)
theorem Iq{st:SortSt}{Q:Array Keyed→SortSt→Prop}(hk:kindOf st=κ)(ha:0<a.size)(hb:0<b.size)(q:∀r aP,Eg st aP→MG lt a.toList b.toList r.toList→Q r aP):wpS (model prog w) A E s (Ih a b) Q st:=by
 rw[ES];refine wpS_bind (wpS_lift (wpAny_rule ⟨rfl,?_⟩));have ey:b[0]?=some b[0]:=XA;have X':b.toList[0]?=some b[0]:=by rw[Array.getElem?_toList];exact ey
 refine wpS_bind (d_ ey ?_);have m0:ML lt a.toList b.toList [] 0 0:=⟨XA,XA, .nil,fun x hx=>(by cases hx),XA⟩
 have m1:ML lt a.toList b.toList (#[b[0]]:Array Keyed).toList 0 1:=by
  have:=m0.b M (k:=1) (by simp;lia) (fun y hy x hx=>by
   rw[DQ X']at hy;have:y=b[0]:=by simpa using hy
   rw[this];exact M.fst x (List.mem_of_mem_drop hx) _ X')
  rw[DQ X']at this;exact this
 by_cases e:(1==b.size)=true
 ·rw[Xo e];refine wpS_pure (q _ _ (.refl _) ?_);rw[wD];exact m1.dn M (.inr (by have:=beq_iff_eq.mp e;simpa using this))
 rw[Xk e];have e:1≠b.size:=fun z=>e (beq_iff_eq.mpr z)
 by_cases e2:(0+1==a.size)=true
 ·rw[Xo e2];refine wpS_pure (q _ _ (.refl _) ?_);rw[Y4];exact m1.ls M (by have:=beq_iff_eq.mp e2;simpa using this)
 rw[Xk e2];have e2:0+1≠a.size:=fun z=>e2 (beq_iff_eq.mpr z)
 refine wpS_bind (wpS_get ?_);refine wpS_bind (wpS_mono (wpS_forRange (I:=fun x c dq=>Eg st dq∧c.1=none∧XI lt a b c.2.1 c.2.2.1 c.2.2.2.1 x) (Q:=fun c dq=>Eg st dq∧∃x,c.1=some x∧MG lt a.toList b.toList x.toList) ?_ ?_ ⟨.refl _,rfl,m1,by show 0+1<a.size;lia,by show 1<b.size;lia,by show 0≤0+1;lia⟩) ?_)
 ·rintro x c dq _ hx ⟨eg,hc,hI⟩;refine wpS_mono (Io C M (eg.1.trans hk) hI) fun r BG hr=>?_
  obtain⟨CM,hr⟩:=hr;cases r with
  |done c=>exact⟨eg.trans CM,hr⟩
  |yield c=>exact⟨eg.trans CM,hr⟩
 ·rintro c dq ⟨eg,hc,h1,h2,h3,h4⟩
  lia
 ·rintro c dq ⟨eg,x,e,hg⟩;rw[e];exact wpS_pure (q x dq eg hg)
end
theorem uN{α:Type}{l:List α}{i:Nat}{x:α}:x∈l.take i↔∃t:Nat,t<i∧l[t]?=some x:=by
 have:=qS (l:=l) (i:=0) (k:=i) (x:=x);simpa using this
theorem wF{α:Type}{l:List α}{i t:Nat}{x:α}:x∈(l.take i).drop t↔∃u:Nat,t≤u∧u<i∧l[u]?=some x:=by
 rw[kz];constructor
 ·rintro⟨u,hu⟩;rw[List.getElem?_take]at hu;split at hu
  ·exact⟨t+u,by lia,by assumption,hu⟩
  ·cases hu
 ·rintro⟨u,h1,h2,h3⟩;exact⟨u-t,by rw[List.getElem?_take,Xo Xv,show t+(u-t)=u by lia];exact h3⟩
theorem wG{α:Type}(l:List α){i t:Nat}(h:t≤i):l.take i=l.take t++(l.take i).drop t:=by
 conv=>lhs;rw[←List.take_append_drop t (l.take i)]
 rw[List.take_take,Nat.min_eq_left h]
section
variable{X:List Keyed}{lt:Keyed→Keyed→Bool}{P Q:List Keyed}
structure MH(lt:Keyed→Keyed→Bool)(P Q O:List Keyed)(i j:Nat):Prop where
 hi:i≤P.length
 hj:j≤Q.length
 qT:Pw lt O
 X0:∀y∈O,∀x,x∈P.take i∨x∈Q.take j→lt x y=true
 EU:((P.take i++Q.take j)++O).Perm (P++Q)
theorem MH.a{O:List Keyed}{i j t:Nat}(M:MC X lt P Q)(m:MH lt P Q O i j)(ht:t≤i)(h:∀x∈(P.take i).drop t,∀y∈Q.take j,lt y x=true):MH lt P Q ((P.take i).drop t++O) t j:=by
 have sp:=wG P ht;have sd:Pw lt (P.take i):=M.sa.sublist (List.take_sublist _ _);rw[sp]at sd;obtain⟨s1,s2,s3⟩:=List.pairwise_append.mp sd;refine⟨by have:=m.hi;lia,m.hj,List.pairwise_append.mpr ⟨s2,m.qT,fun x hx y hy=>m.X0 y hy x (.inl (List.mem_of_mem_drop hx))⟩,fun y hy x hx=>?_,?_⟩
 ·rcases List.mem_append.mp hy with hy|hy
  ·rcases hx with hx|hx
   ·exact s3 x hx y hy
   ·exact h y hy x hx
  ·exact m.X0 y hy x (hx.imp (fun z=>by rw[sp];exact List.mem_append_left _ z) id)
 ·have:=m.EU;rw[sp]at this;refine List.Perm.trans ?_ this;rw[←List.append_assoc];refine List.Perm.append_right O ?_;rw[List.append_assoc,List.append_assoc];exact List.Perm.append_left _ List.perm_append_comm
theorem MH.b{O:List Keyed}{i j t:Nat}(M:MC X lt P Q)(m:MH lt P Q O i j)(ht:t≤j)(h:∀y∈(Q.take j).drop t,∀x∈P.take i,lt x y=true):MH lt P Q ((Q.take j).drop t++O) i t:=by
 have sp:=wG Q ht;have sd:Pw lt (Q.take j):=M.sb.sublist (List.take_sublist _ _);rw[sp]at sd;obtain⟨s1,s2,s3⟩:=List.pairwise_append.mp sd;refine⟨m.hi,by have:=m.hj;lia,List.pairwise_append.mpr ⟨s2,m.qT,fun x hx y hy=>m.X0 y hy x (.inr (List.mem_of_mem_drop hx))⟩,fun y hy x hx=>?_,?_⟩
 ·rcases List.mem_append.mp hy with hy|hy
  ·rcases hx with hx|hx
   ·exact h y hy x hx
   ·exact s3 x hx y hy
  ·exact m.X0 y hy x (hx.imp id (fun z=>by rw[sp];exact List.mem_append_left _ z))
 ·have:=m.EU;rw[sp]at this;rw[←List.append_assoc,List.append_assoc (P.take i)];exact this
theorem MH.dn{O:List Keyed}{i j:Nat}(M:MC X lt P Q)(m:MH lt P Q O i j)(h:i=0∨j=0):MG lt P Q (P.take i++Q.take j++O):=by
 refine⟨m.EU,?_⟩;have sa:Pw lt (P.take i):=M.sa.sublist (List.take_sublist _ _);have sb:Pw lt (Q.take j):=M.sb.sublist (List.take_sublist _ _);refine List.pairwise_append.mpr ⟨List.pairwise_append.mpr ⟨sa,sb,fun x hx y hy=>?_⟩,m.qT,fun x hx y hy=>m.X0 y hy x (List.mem_append.mp hx)⟩;rcases h with h|h
 ·rw[h,List.take_zero]at hx;cases hx
 ·rw[h,List.take_zero]at hy;cases hy
theorem MH.fb{O:List Keyed}{i j:Nat}(M:MC X lt P Q)(m:MH lt P Q O i j)(h:j=1):MG lt P Q (Q.take j++P.take i++O):=by
 have sa:Pw lt (P.take i):=M.sa.sublist (List.take_sublist _ _);have sb:Pw lt (Q.take j):=M.sb.sublist (List.take_sublist _ _);refine⟨(List.Perm.append_right O List.perm_append_comm).trans m.EU,List.pairwise_append.mpr ⟨List.pairwise_append.mpr ⟨sb,sa,fun y hy x hx=>?_⟩,m.qT,fun x hx y hy=>m.X0 y hy x (List.mem_append.mp hx).symm⟩⟩;obtain⟨t,h1,h2⟩:=uN.mp hy;have:t=0:=by lia
 subst this;exact M.fst x (List.mem_of_mem_take hx) y h2
end
section
variable{prog:Program}{w:World}{A:Around}{E:Value→Shared→Prop}{s:Shared}{X:List Keyed}{κ:SortKind}{lt:Keyed→Keyed→Bool}(C:CI prog w A s X κ lt){a b:Array Keyed}(M:MC X lt a.toList b.toList)
theorem wH(o:Array Keyed)(i j:Nat):(DO a b o i j).toList=a.toList.take i++b.toList.take j++o.toList.reverse:=by
 unfold DO;simp[Array.toList_extract,List.extract_eq_take_drop]
theorem Y6(o:Array Keyed)(i j:Nat):(JQ a b o i j).toList=b.toList.take j++a.toList.take i++o.toList.reverse:=by
 unfold JQ;simp[Array.toList_extract,List.extract_eq_take_drop]
theorem Gg(o:Array Keyed)(c:Array Keyed)(t i:Nat):(o++(c.extract t i).reverse).toList.reverse=(c.toList.take i).drop t++o.toList.reverse:=by
 simp[Array.toList_extract,List.extract_eq_take_drop,List.drop_take]
theorem Y9(o:Array Keyed)(x:Keyed):(o.push x).toList.reverse=[x]++o.toList.reverse:=XA
theorem DR{l:List Keyed}{i:Nat}{x:Keyed}(h0:0<i)(h:l[i-1]?=some x):(l.take i).drop (i-1)=[x]:=by
 have:l.take i=l.take (i-1)++[x]:=by
  conv=>lhs;rw[show i=i-1+1 by lia]
  rw[List.take_succ,h];rfl
 rw[this];have hl:=(Xd h).1;rw[List.drop_left' (by simp;lia)]
theorem qz{l:List Keyed}(C:CI prog w A s X κ lt)(hs:Pw lt l)(m4:∀x∈l,x∈X){i:Nat}{x z:Keyed}(h:l[i-1]?=some x)(hz:z∈l.take i){y:Keyed}(hy:y∈X)(X8:lt x y=true):lt z y=true:=by
 obtain⟨t,h1,h2⟩:=uN.mp hz;by_cases e:t=i-1
 ·subst e;rw[h]at h2;cases h2;exact X8
 ·exact C.tr _ (m4 _ (Xi h2)) _ (m4 _ (Xi h)) _ hy (hs.at Xv h2 h) X8
def XF(lt:Keyed→Keyed→Bool)(a b:Array Keyed)(o:Array Keyed)(i j m:Nat):Prop:=MH lt a.toList b.toList o.toList.reverse i j∧0<i∧1<j∧m+i+j≤a.size+b.size
def Ir(lt:Keyed→Keyed→Bool)(a b:Array Keyed)(m:Nat)(st:SortSt)(r:ForInStep T2)(aP:SortSt):Prop:=Eg st aP∧match r with
 | .done c=>(∃x,c.1=some x∧MG lt a.toList b.toList x.toList)∨(c.1=none∧XF lt a b c.2.2.2.1 c.2.1 c.2.2.1 m)
 | .yield c=>c.1=none∧XF lt a b c.2.2.2.1 c.2.1 c.2.2.1 m
include C M
theorem CO{st:SortSt}{o:Array Keyed}{i j mg k l m:Nat}(ml:MH lt a.toList b.toList o.toList.reverse i j)(hi:0<i)(hj:1<j)(hm:m+i+j≤a.size+b.size+1)(h:∀x,a.toList[i-1]?=some x→∀y∈b.toList.take j,lt y x=true):wpS (model prog w) A E s (M5 a b o i j mg k l) (Ir lt a b m st) st:=by
 unfold M5;have Po:i≤a.size:=by have:=ml.hi;simpa using this
 have ex:a[i-1]?=some a[i-1]:=XA;have fW:a.toList[i-1]?=some a[i-1]:=by rw[Array.getElem?_toList];exact ex
 refine wpS_bind (d_ ex ?_);have m2:MH lt a.toList b.toList (o.push a[i-1]).toList.reverse (i-1) j:=by
  have:=ml.a M (t:=i-1) (by lia) (fun x hx y hy=>by
   rw[DR hi fW]at hx;have:x=a[i-1]:=by simpa using hx
   rw[this];exact h _ fW y hy)
  rw[DR hi fW]at this;rw[Y9];exact this
 by_cases e:(i-1==0)=true
 ·rw[Xo e];refine wpS_pure ⟨.refl _, .inl ⟨_,rfl,?_⟩⟩;rw[wH];exact m2.dn M (.inl (beq_iff_eq.mp e))
 ·rw[Xk e];have e:i-1≠0:=fun z=>e (beq_iff_eq.mpr z)
  split
  ·exact wpS_pure ⟨.refl _, .inr ⟨rfl,m2,by show 0<i-1;lia,hj,by show m+(i-1)+j≤_;lia⟩⟩
  ·exact wpS_pure ⟨.refl _,rfl,m2,by show 0<i-1;lia,hj,by show m+(i-1)+j≤_;lia⟩
theorem Iu{st:SortSt}{o:Array Keyed}{i j mg k bc m:Nat}(hk:kindOf st=κ)(ml:MH lt a.toList b.toList o.toList.reverse i j)(hi:0<i)(hj:1<j)(hm:m+i+j≤a.size+b.size+1):wpS (model prog w) A E s (Pj a b o i j mg k bc) (Ir lt a b m st) st:=by
 unfold Pj;have Po:i≤a.size:=by have:=ml.hi;simpa using this
 have Pq:j≤b.size:=by have:=ml.hj;simpa using this
 have ex:a[i-1]?=some a[i-1]:=XA;have fW:a.toList[i-1]?=some a[i-1]:=by rw[Array.getElem?_toList];exact ex
 have hx:a[i-1]∈a.toList:=Xi fW;refine wpS_bind (d_ ex ?_);generalize a[i-1]=x at ex fW hx;have gb:∀t,t<j→b[0+t]?=some (b.getD t (.none, .none)):=fun t ht=>by simp[show t<b.size by lia]
 have p8:∀t,t<j→b.toList[t]?=some (b.getD t (.none, .none)):=fun t ht=>by rw[Array.getElem?_toList];simpa using gb t ht
 refine wpS_bind (oV C (fun t=>b.getD t (.none, .none)) hk (M.ia _ hx) (fun t ht=>⟨gb t ht,M.ib _ (Xi (p8 t ht))⟩) (fun t u h1 h2=>M.sb.at h1 (p8 t (by lia)) (p8 u h2)) (by lia) fun t hl h1 h2=>?_);dsimp only;have X0:∀y∈(b.toList.take j).drop t,∀z∈a.toList.take i,lt z y=true:=fun y hy z hz=>by
  obtain⟨u,h3,h4,h5⟩:=wF.mp hy;have hb:=h2 u h3 h4;rw[p8 u h4]at h5;have h5:=Option.some.inj h5;simp only[j8,if_true]at hb;rw[h5]at hb;have Pt:=List.mem_of_mem_take (List.mem_of_mem_drop hy);have hb:=C.no (M.ib _ Pt) (M.ia _ hx) (fun z=>M.ne _ hx _ Pt z.symm) hb;exact qz C M.sa M.ia fW hz (M.ib _ Pt) hb
 have low:∀y∈b.toList.take t,lt y x=true:=fun y hy=>by
  obtain⟨u,h3,h4⟩:=uN.mp hy;have hb:=h1 u h3;rw[p8 u Xv]at h4;have h4:=Option.some.inj h4;simp only[j8,if_true]at hb;rw[h4]at hb;exact hb
 have m2:MH lt a.toList b.toList (o++(b.extract t j).reverse).toList.reverse i t:=by
  rw[Gg];exact ml.b M hl X0
 by_cases Ik:j-t>0
 ·rw[Xo Ik];by_cases e:(t==1)=true
  ·rw[Xo e];refine wpS_pure ⟨.refl _, .inl ⟨_,rfl,?_⟩⟩;rw[Y6];exact m2.fb M (beq_iff_eq.mp e)
  ·rw[Xk e];have e:t≠1:=fun z=>e (beq_iff_eq.mpr z)
   by_cases e2:(t==0)=true
   ·rw[Xo e2];refine wpS_pure ⟨.refl _, .inl ⟨_,rfl,?_⟩⟩;rw[wH];exact m2.dn M (.inr (beq_iff_eq.mp e2))
   ·rw[Xk e2];have e2:t≠0:=fun z=>e2 (beq_iff_eq.mpr z)
    exact CO C M m2 hi Xv (by lia) fun y hy=>by rw[fW]at hy;cases hy;exact low
 ·rw[Xk Ik];have:t=j:=by lia
  subst this;exact CO C M ml hi hj hm fun y hy=>by rw[fW]at hy;cases hy;exact low
theorem CP{st:SortSt}{o:Array Keyed}{i j mg k bc m:Nat}(hk:kindOf st=κ)(ml:MH lt a.toList b.toList o.toList.reverse i j)(hi:0<i)(hj:1<j)(hm:m+i+j≤a.size+b.size+2)(h:∀y,b.toList[j-1]?=some y→∀x∈a.toList.take i,lt x y=true):wpS (model prog w) A E s (M6 a b o i j mg k bc) (Ir lt a b m st) st:=by
 unfold M6;have Pq:j≤b.size:=by have:=ml.hj;simpa using this
 have ex:b[j-1]?=some b[j-1]:=XA;have fW:b.toList[j-1]?=some b[j-1]:=by rw[Array.getElem?_toList];exact ex
 refine wpS_bind (d_ ex ?_);have m2:MH lt a.toList b.toList (o.push b[j-1]).toList.reverse i (j-1):=by
  have:=ml.b M (t:=j-1) (by lia) (fun x hx y hy=>by
   rw[DR Xv fW]at hx;have:x=b[j-1]:=by simpa using hx
   rw[this];exact h _ fW y hy)
  rw[DR Xv fW]at this;rw[Y9];exact this
 by_cases e:(j-1==1)=true
 ·rw[Xo e];refine wpS_pure ⟨.refl _, .inl ⟨_,rfl,?_⟩⟩;rw[Y6];exact m2.fb M (beq_iff_eq.mp e)
 ·rw[Xk e];have e:j-1≠1:=fun z=>e (beq_iff_eq.mpr z)
  exact Iu C M hk m2 hi Xv (by lia)
theorem CQ{st:SortSt}{o:Array Keyed}{i j mg ac bc m:Nat}(hk:kindOf st=κ)(h:XF lt a b o i j m):wpS (model prog w) A E s (DP a b o i j mg ac bc) (Ir lt a b (m+2) st) st:=by
 obtain⟨ml,hi,hj,hm⟩:=h;have Po:i≤a.size:=by have:=ml.hi;simpa using this
 have Pq:j≤b.size:=by have:=ml.hj;simpa using this
 unfold DP;refine wpS_bind (qy fun X9 eg=>?_);have Gf:kindOf X9=κ:=eg.1.trans hk;have fin:∀{m:Nat}{p:StateT SortSt Sem (ForInStep T2)},wpS (model prog w) A E s p (Ir lt a b m X9) X9→wpS (model prog w) A E s p (Ir lt a b m st) X9:=fun h=>wpS_mono h fun r aP z=>⟨eg.trans z.1,z.2⟩
 refine fin ?_;have ex:b[j-1]?=some b[j-1]:=XA;have fW:b.toList[j-1]?=some b[j-1]:=by rw[Array.getElem?_toList];exact ex
 have hx:b[j-1]∈b.toList:=Xi fW;refine wpS_bind (d_ ex ?_);generalize b[j-1]=y at ex fW hx;have gb:∀t,t<i→a[0+t]?=some (a.getD t (.none, .none)):=fun t ht=>by simp[show t<a.size by lia]
 have p8:∀t,t<i→a.toList[t]?=some (a.getD t (.none, .none)):=fun t ht=>by rw[Array.getElem?_toList];simpa using gb t ht
 refine wpS_bind (oV C (fun t=>a.getD t (.none, .none)) Gf (M.ib _ hx) (fun t ht=>⟨gb t ht,M.ia _ (Xi (p8 t ht))⟩) (fun t u h1 h2=>M.sa.at h1 (p8 t (by lia)) (p8 u h2)) (by lia) fun t hl h1 h2=>?_);dsimp only;have X0:∀x∈(a.toList.take i).drop t,∀z∈b.toList.take j,lt z x=true:=fun x r9 z hz=>by
  obtain⟨u,h3,h4,h5⟩:=wF.mp r9;have hb:=h2 u h3 h4;rw[p8 u h4]at h5;have h5:=Option.some.inj h5;simp only[j8,Bool.false_eq_true,if_false,Bool.not_eq_false']at hb;rw[h5]at hb;exact qz C M.sb M.ib fW hz (M.ia _ (List.mem_of_mem_take (List.mem_of_mem_drop r9))) hb
 have low:∀x∈a.toList.take t,lt x y=true:=fun x r9=>by
  obtain⟨u,h3,h4⟩:=uN.mp r9;have hb:=h1 u h3;rw[p8 u Xv]at h4;have h4:=Option.some.inj h4;have Av:=List.mem_of_mem_take r9;simp only[j8,Bool.false_eq_true,if_false,Bool.not_eq_true']at hb;rw[h4]at hb;exact C.no (M.ib _ hx) (M.ia _ Av) (fun z=>M.ne _ Av _ hx z.symm) hb
 have m2:MH lt a.toList b.toList (o++(a.extract t i).reverse).toList.reverse t j:=by
  rw[Gg];exact ml.a M hl X0
 by_cases AM:i-t>0
 ·rw[Xo AM];by_cases e:(t==0)=true
  ·rw[Xo e];refine wpS_pure ⟨.refl _, .inl ⟨_,rfl,?_⟩⟩;rw[wH];exact m2.dn M (.inl (beq_iff_eq.mp e))
  ·rw[Xk e];have e:t≠0:=fun z=>e (beq_iff_eq.mpr z)
   exact CP C M Gf m2 Xv hj Xv fun z hz=>by rw[fW]at hz;cases hz;exact low
 ·rw[Xk AM];have:t=i:=by lia
  subst this;exact CP C M Gf ml hi hj Xv fun z hz=>by rw[fW]at hz;cases hz;exact low
theorem Iv{st:SortSt}{c:T2}{m:Nat}(hk:kindOf st=κ)(h:XF lt a b c.2.2.2.1 c.2.1 c.2.2.1 m):wpS (model prog w) A E s (Pk a b c) (Ir lt a b (m+2) st) st:=by
 unfold Pk;split
 ·exact CQ C M hk h
 ·exact CQ C M hk h
theorem Iw{st:SortSt}{c:T1}{mg m:Nat}(hk:kindOf st=κ)(h:XF lt a b c.2.2.2.1 c.2.1 c.2.2.1 m):wpS (model prog w) A E s (Ph a b mg c) (fun r aP=>aP=st∧match r with
  | .done c=>(∃x,c.1=some x∧MG lt a.toList b.toList x.toList)∨(c.1=none∧XF lt a b c.2.2.2.1 c.2.1 c.2.2.1 (m+1))
  | .yield c=>c.1=none∧XF lt a b c.2.2.2.1 c.2.1 c.2.2.1 (m+1)) st:=by
 obtain⟨r,i,j,o,ac,bc⟩:=c;obtain⟨ml,hi,hj,hm⟩:=h;dsimp only at ml hi hj hm;have Po:i≤a.size:=by have:=ml.hi;simpa using this
 have Pq:j≤b.size:=by have:=ml.hj;simpa using this
 unfold Ph;dsimp only;have ex:a[i-1]?=some a[i-1]:=XA;have fW:a.toList[i-1]?=some a[i-1]:=by rw[Array.getElem?_toList];exact ex
 have ey:b[j-1]?=some b[j-1]:=XA;have X':b.toList[j-1]?=some b[j-1]:=by rw[Array.getElem?_toList];exact ey
 have hx:a[i-1]∈a.toList:=Xi fW;have hy:b[j-1]∈b.toList:=Xi X';refine wpS_bind (d_ ey (wpS_bind (d_ ex ?_)));generalize a[i-1]=x at ex fW hx;generalize b[j-1]=y at ey X' hy;refine wpS_bind (C.ask hk (M.ib _ hy) (M.ia _ hx) ?_);dsimp only;cases e:lt y x with
 |true=>
  rw[if_pos rfl];refine wpS_bind (d_ ex ?_);have m2:MH lt a.toList b.toList (o.push x).toList.reverse (i-1) j:=by
   have:=ml.a M (t:=i-1) (by lia) (fun x' r9 z hz=>by
    rw[DR hi fW]at r9;have:x'=x:=by simpa using r9
    rw[this];exact qz C M.sb M.ib X' hz (M.ia _ hx) e)
   rw[DR hi fW]at this;rw[Y9];exact this
  by_cases e2:(i-1==0)=true
  ·rw[Xo e2];refine wpS_pure ⟨rfl, .inl ⟨_,rfl,?_⟩⟩;rw[wH];exact m2.dn M (.inl (beq_iff_eq.mp e2))
  ·rw[Xk e2];have e2:i-1≠0:=fun z=>e2 (beq_iff_eq.mpr z)
   split
   ·exact wpS_pure ⟨rfl, .inr ⟨rfl,m2,by show 0<i-1;lia,hj,by show m+1+(i-1)+j≤_;lia⟩⟩
   ·exact wpS_pure ⟨rfl,rfl,m2,by show 0<i-1;lia,hj,by show m+1+(i-1)+j≤_;lia⟩
 |false=>
  rw[if_neg Xr];refine wpS_bind (d_ ey ?_);have e:=C.no (M.ib _ hy) (M.ia _ hx) (fun z=>M.ne _ hx _ hy z.symm) e;have m2:MH lt a.toList b.toList (o.push y).toList.reverse i (j-1):=by
   have:=ml.b M (t:=j-1) (by lia) (fun y' LA z hz=>by
    rw[DR Xv X']at LA;have:y'=y:=by simpa using LA
    rw[this];exact qz C M.sa M.ia fW hz (M.ib _ hy) e)
   rw[DR Xv X']at this;rw[Y9];exact this
  by_cases e2:(j-1==1)=true
  ·rw[Xo e2];refine wpS_pure ⟨rfl, .inl ⟨_,rfl,?_⟩⟩;rw[Y6];exact m2.fb M (beq_iff_eq.mp e2)
  ·rw[Xk e2];have e2:j-1≠1:=fun z=>e2 (beq_iff_eq.mpr z)
   split
   ·exact wpS_pure ⟨rfl, .inr ⟨rfl,m2,hi,by show 1<j-1;lia,by show m+1+i+(j-1)≤_;lia⟩⟩
   ·exact wpS_pure ⟨rfl,rfl,m2,hi,by show 1<j-1;lia,by show m+1+i+(j-1)≤_;lia⟩
theorem Iy{st:SortSt}{c:T3}{m:Nat}(hk:kindOf st=κ)(h:XF lt a b c.2.2.2.1 c.2.1 c.2.2.1 m):wpS (model prog w) A E s (Pl a b c) (fun r aP=>Eg st aP∧match r with
  | .done c=>∃x,c.1=some x∧MG lt a.toList b.toList x.toList
  | .yield c=>c.1=none∧XF lt a b c.2.2.2.1 c.2.1 c.2.2.1 (m+1)) st:=by
 unfold Pl;refine wpS_bind (wpS_mono (wpS_forRange (I:=fun x c aP=>aP=st∧c.1=none∧XF lt a b c.2.2.2.1 c.2.1 c.2.2.1 (m+x)) (Q:=fun c aP=>aP=st∧((∃x,c.1=some x∧MG lt a.toList b.toList x.toList)∨(c.1=none∧XF lt a b c.2.2.2.1 c.2.1 c.2.2.1 (m+1)))) ?_ ?_ ⟨rfl,rfl,h⟩) ?_)
 ·rintro x c aP _ hx ⟨rfl,hc,hI⟩;refine wpS_mono (Iw C M hk hI) fun r aP hr=>?_
  obtain⟨rfl,hr⟩:=hr;cases r with
  |done c=>exact⟨rfl,hr.imp id fun z=>⟨z.1,z.2.1,z.2.2.1,z.2.2.2.1,by have:=z.2.2.2.2;lia⟩⟩
  |yield c=>exact⟨rfl,hr.1,hr.2⟩
 ·rintro c aP ⟨rfl,hc,h1,h2,h3,h4⟩
  lia
 rintro t aP ⟨rfl,ht⟩;rcases ht with⟨x,e,hg⟩|⟨e,hI⟩
 ·rw[e];exact wpS_pure ⟨.refl _,x,rfl,hg⟩
 rw[e];dsimp only;refine wpS_bind (wpS_lift (wpAny_rule ⟨rfl,?_⟩));refine wpS_bind (wpS_mono (wpS_forRange (I:=fun x c dq=>Eg aP dq∧c.1=none∧XF lt a b c.2.2.2.1 c.2.1 c.2.2.1 (m+1+x)) (Q:=fun c dq=>Eg aP dq∧((∃x,c.1=some x∧MG lt a.toList b.toList x.toList)∨(c.1=none∧XF lt a b c.2.2.2.1 c.2.1 c.2.2.1 (m+1)))) ?_ ?_ ⟨.refl _,rfl,hI⟩) ?_)
 ·rintro x c dq _ hx ⟨eg,hc,hI⟩;refine wpS_mono (Iv C M (eg.1.trans hk) hI) fun r BG hr=>?_
  obtain⟨CM,hr⟩:=hr;cases r with
  |done c=>exact⟨eg.trans CM,hr.imp id fun z=>⟨z.1,z.2.1,z.2.2.1,z.2.2.2.1,by have:=z.2.2.2.2;lia⟩⟩
  |yield c=>exact⟨eg.trans CM,hr.1,hr.2.1,hr.2.2.1,hr.2.2.2.1,by have:=hr.2.2.2.2;lia⟩
 ·rintro c dq ⟨eg,hc,h1,h2,h3,h4⟩
  lia
 rintro u dq ⟨eg,hu⟩;rcases hu with⟨x,e,hg⟩|⟨e,hI⟩
 ·rw[e];exact wpS_pure ⟨eg,x,rfl,hg⟩
 rw[e];dsimp only;exact wpS_bind (qy fun BG Pn=>wpS_pure ⟨eg.trans Pn,rfl,hI⟩)
theorem IA{st:SortSt}{Q:Array Keyed→SortSt→Prop}(hk:kindOf st=κ)(ha:0<a.size)(hb:0<b.size)(q:∀r aP,Eg st aP→MG lt a.toList b.toList r.toList→Q r aP):wpS (model prog w) A E s (Ii a b) Q st:=by
 rw[ET];refine wpS_bind (wpS_lift (wpAny_rule ⟨rfl,?_⟩));have ex:a[a.size-1]?=some a[a.size-1]:=XA;have fW:a.toList[a.size-1]?=some a[a.size-1]:=by rw[Array.getElem?_toList];exact ex
 refine wpS_bind (d_ ex ?_);have m0:MH lt a.toList b.toList [] a.size b.size:=⟨XA,XA, .nil,fun x hx=>(by cases hx),by rw[List.take_of_length_le Xr,List.take_of_length_le Xr];simp⟩
 have m1:MH lt a.toList b.toList (#[a[a.size-1]]:Array Keyed).toList.reverse (a.size-1) b.size:=by
  have:=m0.a M (t:=a.size-1) (by lia) (fun x hx y hy=>by
   rw[DR ha fW]at hx;have:x=a[a.size-1]:=by simpa using hx
   rw[this];exact M.lst y (List.mem_of_mem_take hy) _ (by simpa using fW))
  rw[DR ha fW]at this;simpa using this
 by_cases e:(a.size-1==0)=true
 ·rw[Xo e];refine wpS_pure (q _ _ (.refl _) ?_);rw[wH];exact m1.dn M (.inl (beq_iff_eq.mp e))
 rw[Xk e];have e:a.size-1≠0:=fun z=>e (beq_iff_eq.mpr z)
 by_cases e2:(b.size==1)=true
 ·rw[Xo e2];refine wpS_pure (q _ _ (.refl _) ?_);rw[Y6];exact m1.fb M (beq_iff_eq.mp e2)
 rw[Xk e2];have e2:b.size≠1:=fun z=>e2 (beq_iff_eq.mpr z)
 refine wpS_bind (wpS_get ?_);refine wpS_bind (wpS_mono (wpS_forRange (I:=fun x c dq=>Eg st dq∧c.1=none∧XF lt a b c.2.2.2.1 c.2.1 c.2.2.1 x) (Q:=fun c dq=>Eg st dq∧∃x,c.1=some x∧MG lt a.toList b.toList x.toList) ?_ ?_ ⟨.refl _,rfl,m1,by show 0<a.size-1;lia,by show 1<b.size;lia,by show 0+(a.size-1)+b.size≤_;lia⟩) ?_)
 ·rintro x c dq _ hx ⟨eg,hc,hI⟩;refine wpS_mono (Iy C M (eg.1.trans hk) hI) fun r BG hr=>?_
  obtain⟨CM,hr⟩:=hr;cases r with
  |done c=>exact⟨eg.trans CM,hr⟩
  |yield c=>exact⟨eg.trans CM,hr⟩
 ·rintro c dq ⟨eg,hc,h1,h2,h3,h4⟩
  lia
 ·rintro c dq ⟨eg,x,e,hg⟩;rw[e];exact wpS_pure (q x dq eg hg)
end
def M7(lo i n:Nat):StateT SortSt Sem AscSt:=forIn [i:n] ((none,i):AscSt) fun _ c=>do
 let z←ltAt' (lo+c.2) (lo+c.2-1)
 match z with
 |some v=>if v=true then pure (.done (none,c.2))else pure (.yield (none,c.2+1))
 | _=>pure (.done (some none,c.2))
def M8(lo i n:Nat):StateT SortSt Sem (Option Nat):=do
 reverseSlice' lo (lo+i)
 let t←M7 lo i n
 match t.1 with
 |some r=>pure r
 |none=>pure (some t.2)
def Pu(lo i n:Nat):StateT SortSt Sem DescSt:=forIn [i:n] ((none,i,0):DescSt) fun _ c=>do
 let z←ltAt' (lo+c.2.1) (lo+c.2.1-1)
 match z with
 |some v=>
  if v=true then
   if c.2.2>0 then do
    reverseSlice' (lo+c.2.1-(c.2.2+1)) (lo+c.2.1)
    pure (.yield (none,c.2.1+1,0))
   else pure (.yield (none,c.2.1+1,0))
  else do
   let z←ltAt' (lo+c.2.1-1) (lo+c.2.1)
   match z with
   |some v=>if v=true then pure (.done (none,c.2.1,c.2.2))else pure (.yield (none,c.2.1+1,c.2.2+1))
   | _=>pure (.done (some none,c.2.1,c.2.2))
 | _=>pure (.done (some none,c.2.1,c.2.2))
def Px(lo i n:Nat):StateT SortSt Sem (Option Nat):=do
 liftM (rule "list.sort.descending-run")
 let t←Pu lo (i+1) n
 match t.1 with
 |some r=>pure r
 |none=>
  if t.2.2>0 then do
   reverseSlice' (lo+t.2.1-(t.2.2+1)) (lo+t.2.1)
   M8 lo t.2.1 n
  else M8 lo t.2.1 n
theorem IB(lo n:Nat):countRun' lo n=(do
 let t←M7 lo 1 n
 match t.1 with
 |some r=>pure r
 |none=>
  if (t.2==n)=true then pure (some t.2)
  else if t.2>1 then do
   let z←ltAt' lo (lo+t.2-1)
   match z with
   |some v=>if v=true then pure (some t.2)else do
     reverseSlice' lo (lo+t.2)
     Px lo t.2 n
   | _=>pure none
  else Px lo t.2 n):=by kernel_rfl
def Rt(lo k:Nat):StateT SortSt Sem (Option Bool×Nat×Nat):=forIn [0:k] ((none,0,k):Option Bool×Nat×Nat) fun _ c=>
 if c.2.1≥c.2.2 then pure (.done (none,c.2.1,c.2.2))
 else do
  let z←ltAt' (lo+k) (lo+(c.2.1+c.2.2)/2)
  match z with
  |some v=>if v=true then pure (.yield (none,c.2.1,(c.2.1+c.2.2)/2))else pure (.yield (none,(c.2.1+c.2.2)/2+1,c.2.2))
  | _=>pure (.done (some false,c.2.1,c.2.2))
theorem IC(lo n ok:Nat):binarySort' lo n ok=(do
 let t←forIn [max ok 1:n] ((none,()):Option Bool×Unit) fun k _=>do
  let t←Rt lo k
  match t.1 with
  |some r=>pure (.done (some r,()))
  |none=>do
   moveDown' (lo+k) (lo+t.2.1)
   pure (.yield (none,()))
 match t.1 with
 |some r=>pure r
 |none=>pure true):=by kernel_rfl
def Bp(j:Nat)(m:Array Keyed)(st:SortSt):SortSt:=setArr st (m.toList.zipIdx.foldl (fun c q=>c.setIfInBounds (j+q.2) q.1) (arrOf st))
theorem ID(i:Nat):mergeAt' i=(do
 let g←get
 let (some (p,m,v),some (q,n,_)):=((pendingOf g)[i]?,(pendingOf g)[i+1]?)|unsupported "internal:list.sort.pending"
 set (setPending g (((pendingOf g).setIfInBounds i (p,m+n,v)).eraseIdxIfInBounds (i+1)))
 let some k←wC false (←elem' (arrOf g) q) (arrOf g) p m 0|return false
 if m-k==0 then return true
 let some n←wC true (←elem' (arrOf g) (p+k+(m-k)-1)) (arrOf g) q n (n-1)|return false
 if n==0 then return true
 let r←if m-k≤n then Ih ((arrOf g).extract (p+k) q) ((arrOf g).extract q (q+n))else Ii ((arrOf g).extract (p+k) q) ((arrOf g).extract q (q+n))
 modify fun st=>Bp (p+k) r st
 return (failedOf (←get)).isNone):=by kernel_rfl
def Py(n w:Nat):StateT SortSt Sem (Option Unit×Unit):=forIn [0:n] ((none,()):Option Unit×Unit) fun _ _=>do
 let g←get
 match (if (pendingOf g).size>1 then(pendingOf g)[(pendingOf g).size-2]? else none)with
 |some (_,_,v)=>
  if v≤w then pure (.done (none,()))
  else do
   let z←mergeAt' ((pendingOf g).size-2)
   if (!z)=true then pure (.done (some (),()))else pure (.yield (none,()))
 | _=>pure (.done (none,()))
def Ru(w:Nat)(st:SortSt):SortSt:=setPending st ((pendingOf st).modify ((pendingOf st).size-1) fun(p,l,_)=>(p,l,w))
def M9(lo n:Nat)(st:SortSt):SortSt:=setPending st ((pendingOf st).push (lo,n,0))
def M_(N lo n:Nat):StateT SortSt Sem (ForInStep (Option Unit×Nat)):=do
 let g←get
 match (pendingOf g).back? with
 |some (p,l,_)=>do
  let t←Py N (power' N (2*p+l) (2*p+l+l+n) N)
  match t.1 with
  |some r=>pure (.done (some r,lo))
  |none=>do
   modify (Ru (power' N (2*p+l) (2*p+l+l+n) N))
   modify (M9 lo n)
   pure (.yield (none,lo+n))
 | _=>do
  modify (M9 lo n)
  pure (.yield (none,lo+n))
def Pz(N:Nat):StateT SortSt Sem (Option Unit×Unit):=forIn [0:N] ((none,()):Option Unit×Unit) fun _ _=>do
 let g←get
 if (pendingOf g).size≤1 then pure (.done (none,()))
 else do
  let z←mergeAt' (if (if (pendingOf g).size-2>0 then((pendingOf g)[(pendingOf g).size-2-1]?).map (·.2.1)else none).any (·<((pendingOf g)[(pendingOf g).size-2+1]?.elim 0 (·.2.1)))then(pendingOf g).size-2-1 else(pendingOf g).size-2)
  if (!z)=true then pure (.done (some (),()))else pure (.yield (none,()))
theorem EV:sortRuns'=(do
 let g←get
 let t←forIn [0:(arrOf g).size] ((none,0):Option Unit×Nat) fun _ c=>
  if c.2≥(arrOf g).size then pure (.done (none,c.2))
  else do
   let z←countRun' c.2 ((arrOf g).size-c.2)
   match z with
   |some n=>
    if n<minRun' (arrOf g).size (arrOf g).size 0 then do
     liftM (rule "list.sort.binary-insertion")
     let z←binarySort' c.2 (min ((arrOf g).size-c.2) (minRun' (arrOf g).size (arrOf g).size 0)) n
     if (!z)=true then pure (.done (some (),c.2))else M_ (arrOf g).size c.2 (min ((arrOf g).size-c.2) (minRun' (arrOf g).size (arrOf g).size 0))
    else M_ (arrOf g).size c.2 n
   | _=>pure (.done (some (),c.2))
 match t.1 with
 |some r=>pure r
 |none=>do
  let u←Pz (arrOf g).size
  match u.1 with
  |some r=>pure r
  |none=>pure ()):=by kernel_rfl
abbrev gg(xs:Array Keyed)(k:Nat):Keyed:=xs.getD k (.none, .none)
theorem nq(xs:Array Keyed)(k:Nat):gg xs k=(xs[k]?).getD (.none, .none):=by unfold gg;rw[Array.getD_eq_getD_getElem?]
theorem j4{xs:Array Keyed}{k:Nat}(h:k<xs.size):xs[k]?=some (gg xs k):=by simp[h]
def Sw(lt:Keyed→Keyed→Bool)(xs:Array Keyed)(a b:Nat):Prop:=∀i j,a≤i→i<j→j<b→lt (gg xs i) (gg xs j)=true
def Dw(lt:Keyed→Keyed→Bool)(xs:Array Keyed)(a b:Nat):Prop:=∀i j,a≤i→i<j→j<b→lt (gg xs j) (gg xs i)=true
theorem Sw.congr{lt:Keyed→Keyed→Bool}{xs ys:Array Keyed}{a b:Nat}(h:Sw lt xs a b)(e:∀t,a≤t→t<b→gg ys t=gg xs t):Sw lt ys a b:=fun i j h1 h2 h3=>by rw[e i h1 Xv,e j Xv h3];exact h i j h1 h2 h3
structure SB(X:List Keyed)(κ:SortKind)(st:SortSt):Prop where
 pm:(arrOf st).toList.Perm X
 kd:kindOf st=κ
 fl:failedOf st=none
theorem EW{σ:Type}{M:Model}{A:Around}{E:Value→Shared→Prop}{s:Shared}{x:σ}{Q:PUnit→σ→Prop}{st:σ}(h:Q ⟨⟩ x):wpS M A E s (set x:StateT σ Sem PUnit) Q st:=by
 unfold wpS;rw[StateT.run_set];exact wpAny_pure ⟨rfl,h⟩
section
variable{prog:Program}{w:World}{A:Around}{E:Value→Shared→Prop}{s:Shared}{X:List Keyed}{κ:SortKind}{lt:Keyed→Keyed→Bool}
theorem SB.size{st:SortSt}(b:SB X κ st):(arrOf st).size=X.length:=by have:=b.pm.length_eq;simpa using this
theorem SB.mem{st:SortSt}(b:SB X κ st){k:Nat}(h:k<X.length):gg (arrOf st) k∈X:=by
 have:=j4 (xs:=arrOf st) (k:=k) (by rw[b.size];exact h);rw[←Array.getElem?_toList]at this;exact b.pm.mem_iff.mp (Xi this)
theorem SB.inj{st:SortSt}(C:CI prog w A s X κ lt)(b:SB X κ st){i j:Nat}(hi:i<X.length)(hj:j<X.length)(h:i≠j):gg (arrOf st) i≠gg (arrOf st) j:=fun e=>by
 have h1:=j4 (xs:=arrOf st) (k:=i) (by rw[b.size];exact hi);have h2:=j4 (xs:=arrOf st) (k:=j) (by rw[b.size];exact hj);rw[←Array.getElem?_toList]at h1 h2;have nd:(arrOf st).toList.Nodup:=b.pm.nodup_iff.mpr C.nd;exact h ((List.getElem?_inj (Xd h1).1 nd).mp (by rw[h1,h2,e]))
theorem SB.set{st:SortSt}{xs:Array Keyed}(b:SB X κ st)(h:xs.Perm (arrOf st)):SB X κ (setArr st xs):=⟨(Array.perm_iff_toList_perm.mp h).trans b.pm,b.kd,b.fl⟩
variable(C:CI prog w A s X κ lt)
include C
theorem wI{st:SortSt}{i j:Nat}{Q:Option Bool→SortSt→Prop}(b:SB X κ st)(hi:i<X.length)(hj:j<X.length)(h:Q (some (lt (gg (arrOf st) i) (gg (arrOf st) j))) st):wpS (model prog w) A E s (ltAt' i j) Q st:=by
 rw[ltAt'_eq];refine wpS_bind (wpS_get ?_);show wpS _ _ _ _ (do let x←elem' (arrOf st) i;let y←elem' (arrOf st) j;lt' x y) Q st;exact wpS_bind (d_ (j4 (by rw[b.size];exact hi)) (wpS_bind (d_ (j4 (by rw[b.size];exact hj)) (C.ask b.kd (b.mem hi) (b.mem hj) h))))
theorem SB.no{st:SortSt}(b:SB X κ st){i j:Nat}(hi:i<X.length)(hj:j<X.length)(h:i≠j)(e:lt (gg (arrOf st) i) (gg (arrOf st) j)=false):lt (gg (arrOf st) j) (gg (arrOf st) i)=true:=C.no (b.mem hi) (b.mem hj) (b.inj C hi hj h) e
theorem Sw.next{st:SortSt}(b:SB X κ st){lo n:Nat}(h1:1≤n)(hn:lo+n<X.length)(h:Sw lt (arrOf st) lo (lo+n))(e:lt (gg (arrOf st) (lo+n)) (gg (arrOf st) (lo+n-1))=false):Sw lt (arrOf st) lo (lo+(n+1)):=fun i j hi r6 hj=>by
 have hl:=b.no C (i:=lo+n) (j:=lo+n-1) hn Xv (by lia) e;by_cases ej:j=lo+n
 ·subst ej;by_cases ei:i=lo+n-1
  ·subst ei;exact hl
  ·exact C.tr _ (b.mem Xv) _ (b.mem Xv) _ (b.mem hn) (h i (lo+n-1) hi Xv (by lia)) hl
 ·exact h i j hi r6 Xv
theorem CS{st:SortSt}{lo i n:Nat}{Q:AscSt→SortSt→Prop}(b:SB X κ st)(hn:lo+n≤X.length)(h1:1≤i)(m4:i≤n)(hs:Sw lt (arrOf st) lo (lo+i))(q:∀m,i≤m→m≤n→Sw lt (arrOf st) lo (lo+m)→(m=n∨lt (gg (arrOf st) (lo+m)) (gg (arrOf st) (lo+m-1))=true)→Q (none,m) st):wpS (model prog w) A E s (M7 lo i n) Q st:=by
 unfold M7;refine wpS_forRange (I:=fun x c aP=>aP=st∧c=(none,x)∧Sw lt (arrOf st) lo (lo+x)) ?_ ?_ ⟨rfl,rfl,hs⟩
 ·rintro x c aP lV hx ⟨rfl,rfl,lU⟩;refine wpS_bind (wI C b (by show lo+x<_;lia) (by show lo+x-1<_;lia) ?_);dsimp only;cases e:lt (gg (arrOf aP) (lo+x)) (gg (arrOf aP) (lo+x-1))with
  |true=>
   rw[if_pos rfl];exact wpS_pure (q x lV Xv lU (.inr e))
  |false=>
   rw[if_neg Xr];exact wpS_pure ⟨rfl,rfl,Sw.next C b (by lia) (by lia) lU e⟩
 ·rintro c aP ⟨rfl,rfl,lU⟩;rw[show max i n=n by lia]at lU⊢;exact q n m4 (Nat.le_refl _) lU (.inl rfl)
omit C in
theorem YC{xs:Array Keyed}{i j:Nat}(hj:j≤xs.size)(k:Nat):gg (mirror xs i j ((j-i)/2)) k=if i≤k∧k<j then gg xs (i+j-1-k)else gg xs k:=by
 rw[nq,getElem?_mirror_all hj];split<;>rw[nq]
theorem IE{st:SortSt}{lo i n:Nat}{Q:Option Nat→SortSt→Prop}(b:SB X κ st)(hn:lo+n≤X.length)(h1:1≤i)(m4:i≤n)(hs:Dw lt (arrOf st) lo (lo+i))(q:∀m aP,SB X κ aP→pendingOf aP=pendingOf st→(∀t,t<lo→gg (arrOf aP) t=gg (arrOf st) t)→1≤m→m≤n→Sw lt (arrOf aP) lo (lo+m)→Q (some m) aP):wpS (model prog w) A E s (M8 lo i n) Q st:=by
 unfold M8;refine wpS_bind ?_;rw[reverseSlice'_eq];refine wpS_modify ?_;have hsz:lo+i≤(arrOf st).size:=by rw[b.size];lia
 have b':SB X κ (setArr st (mirror (arrOf st) lo (lo+i) ((lo+i-lo)/2))):=b.set (mirror_perm _ _ _ _);refine wpS_bind (CS C b' hn h1 m4 (fun x y hx X8 hy=>?_) fun m a1 a2 a3 _=>wpS_pure (q m _ b' rfl (fun t ht=>?_) (by lia) a2 a3))
 ·show lt (gg (mirror (arrOf st) lo (lo+i) ((lo+i-lo)/2)) x) (gg (mirror (arrOf st) lo (lo+i) ((lo+i-lo)/2)) y)=true;rw[YC hsz,YC hsz,Xo Xv,Xo Xv];exact hs _ _ (by lia) (by lia) (by lia)
 ·show gg (mirror (arrOf st) lo (lo+i) ((lo+i-lo)/2)) t=_;rw[YC hsz,Xk Xv]
theorem IF{st:SortSt}{lo i n:Nat}{Q:DescSt→SortSt→Prop}(b:SB X κ st)(hn:lo+n≤X.length)(h1:1≤i)(m4:i≤n)(hs:Dw lt (arrOf st) lo (lo+i))(q:∀m,i≤m→m≤n→Dw lt (arrOf st) lo (lo+m)→Q (none,m,0) st):wpS (model prog w) A E s (Pu lo i n) Q st:=by
 unfold Pu;refine wpS_forRange (I:=fun x c aP=>aP=st∧c=(none,x,0)∧Dw lt (arrOf st) lo (lo+x)) ?_ ?_ ⟨rfl,rfl,hs⟩
 ·rintro x c aP lV hx ⟨rfl,rfl,lU⟩;refine wpS_bind (wI C b (by show lo+x<_;lia) (by show lo+x-1<_;lia) ?_);dsimp only;cases e:lt (gg (arrOf aP) (lo+x)) (gg (arrOf aP) (lo+x-1))with
  |true=>
   rw[if_pos rfl,Xk Xv];refine wpS_pure ⟨rfl,rfl,fun y z hy Uw hz=>?_⟩;by_cases ez:z=lo+x
   ·subst ez;by_cases ey:y=lo+x-1
    ·subst ey;exact e
    ·exact C.tr _ (b.mem Xv) _ (b.mem Xv) _ (b.mem Xv) e (lU y (lo+x-1) hy Xv (by lia))
   ·exact lU y z hy Uw Xv
  |false=>
   rw[if_neg Xr];have e':=b.no C (i:=lo+x) (j:=lo+x-1) (by lia) (by lia) (by lia) e;refine wpS_bind (wI C b (by lia) (by lia) ?_);rw[e'];dsimp only;rw[if_pos rfl];exact wpS_pure (q x lV Xv lU)
 ·rintro c aP ⟨rfl,rfl,lU⟩;rw[show max i n=n by lia]at lU⊢;exact q n m4 (Nat.le_refl _) lU
theorem LB{st:SortSt}{lo n:Nat}{Q:Option Nat→SortSt→Prop}(b:SB X κ st)(hn:lo+n≤X.length)(h1:1≤n)(q:∀m aP,SB X κ aP→pendingOf aP=pendingOf st→(∀t,t<lo→gg (arrOf aP) t=gg (arrOf st) t)→1≤m→m≤n→Sw lt (arrOf aP) lo (lo+m)→Q (some m) aP):wpS (model prog w) A E s (countRun' lo n) Q st:=by
 rw[IB];refine wpS_bind (CS C b hn (Nat.le_refl _) h1 (fun i j a b c=>by lia) fun m a1 a2 a3 a4=>?_);dsimp only;by_cases e:(m==n)=true
 ·rw[Xo e];exact wpS_pure (q m st b rfl (fun _ _=>rfl) a1 a2 a3)
 ·rw[Xk e];have e:m≠n:=fun z=>e (beq_iff_eq.mpr z)
  by_cases e2:m>1
  ·rw[Xo e2];refine wpS_bind (wI C b (by lia) (by lia) ?_);rw[a3 lo (lo+m-1) (Nat.le_refl _) (by lia) (by lia)];dsimp only;rw[if_pos rfl];exact wpS_pure (q m st b rfl (fun _ _=>rfl) a1 a2 a3)
  ·rw[Xk e2];have:m=1:=by lia
   subst this;unfold Px;refine wpS_bind (wpS_lift (wpAny_rule ⟨rfl,?_⟩));refine wpS_bind (IF C b hn Xv (by lia) (fun i j hi r6 hj=>?_) fun m c1 c2 c3=>?_)
   ·have hi:i=lo:=by lia
    have hj:j=lo+1:=by lia
    subst hi hj;exact a4.resolve_left e
   ·dsimp only;rw[Xk Xv];exact IE C b hn Xv c2 c3 q
omit C in
theorem IG{xs:Array Keyed}{src d:Nat}(hs:src<xs.size)(hd:d≤src)(k:Nat):gg (bubble xs src d) k=if k=src-d then gg xs src else if src-d<k∧k≤src then gg xs (k-1)else gg xs k:=by
 rw[nq,getElem?_bubble hs d hd];by_cases h1:k=src-d
 ·rw[Xo h1,Xo h1,nq]
 ·rw[Xk h1,Xk h1];by_cases h2:src-d<k∧k≤src
  ·rw[Xo h2,Xo h2,nq]
  ·rw[Xk h2,Xk h2,nq]
theorem LC{st:SortSt}{lo n ok:Nat}{Q:Bool→SortSt→Prop}(b:SB X κ st)(hn:lo+n≤X.length)(h1:1≤ok)(bL:ok≤n)(hs:Sw lt (arrOf st) lo (lo+ok))(q:∀aP,SB X κ aP→pendingOf aP=pendingOf st→(∀t,t<lo→gg (arrOf aP) t=gg (arrOf st) t)→Sw lt (arrOf aP) lo (lo+n)→Q true aP):wpS (model prog w) A E s (binarySort' lo n ok) Q st:=by
 rw[IC];refine wpS_bind (wpS_mono (wpS_forRange (I:=fun k c aP=>c=(none,())∧SB X κ aP∧pendingOf aP=pendingOf st∧(∀t,t<lo→gg (arrOf aP) t=gg (arrOf st) t)∧Sw lt (arrOf aP) lo (lo+k)) (Q:=fun c aP=>c=(none,())∧SB X κ aP∧pendingOf aP=pendingOf st∧(∀t,t<lo→gg (arrOf aP) t=gg (arrOf st) t)∧Sw lt (arrOf aP) lo (lo+n)) ?_ ?_ ⟨rfl,b,rfl,fun _ _=>rfl,by rw[show max ok 1=ok by lia];exact hs⟩) ?_)
 ·rintro k c aP Gf hk ⟨rfl,b',hp,hf,lU⟩;unfold Rt;refine wpS_bind (wpS_mono (wpS_forRange (I:=fun x c dq=>dq=aP∧∃l r,c=(none,l,r)∧l≤r∧r≤k∧(∀i,i<l→lt (gg (arrOf aP) (lo+i)) (gg (arrOf aP) (lo+k))=true)∧(∀i,r≤i→i<k→lt (gg (arrOf aP) (lo+k)) (gg (arrOf aP) (lo+i))=true)∧r-l+x≤k) (Q:=fun c dq=>dq=aP∧∃l r,c=(none,l,r)∧l≤k∧(∀i,i<l→lt (gg (arrOf aP) (lo+i)) (gg (arrOf aP) (lo+k))=true)∧(∀i,l≤i→i<k→lt (gg (arrOf aP) (lo+k)) (gg (arrOf aP) (lo+i))=true)) ?_ ?_ ⟨rfl,0,k,rfl,by lia,by lia,fun i hi=>by lia,fun i h1 h2=>by lia,by lia⟩) ?_)
  ·rintro x c dq _ hx ⟨rfl,l,r,rfl,a1,a2,a3,a4,a5⟩;dsimp only;by_cases Rv:l≥r
   ·rw[Xo Rv];exact wpS_pure ⟨rfl,l,r,rfl,by lia,a3,fun i h1 h2=>a4 i Xv h2⟩
   ·rw[Xk Rv];refine wpS_bind (wI C b' Xv (by lia) ?_);dsimp only;cases e:lt (gg (arrOf dq) (lo+k)) (gg (arrOf dq) (lo+(l+r)/2))with
    |true=>
     rw[if_pos rfl];refine wpS_pure ⟨rfl,l,(l+r)/2,rfl,by lia,by lia,a3,fun i h1 h2=>?_,by lia⟩;by_cases ei:i=(l+r)/2
     ·subst ei;exact e
     ·exact C.tr _ (b'.mem Xv) _ (b'.mem Xv) _ (b'.mem Xv) e (lU (lo+(l+r)/2) (lo+i) (by lia) (by lia) (by lia))
    |false=>
     rw[if_neg Xr];have e':=b'.no C (i:=lo+k) (j:=lo+(l+r)/2) (by lia) (by lia) (by lia) e;refine wpS_pure ⟨rfl,(l+r)/2+1,r,rfl,by lia,a2,fun i h1=>?_,a4,by lia⟩;by_cases ei:i=(l+r)/2
     ·subst ei;exact e'
     ·exact C.tr _ (b'.mem Xv) _ (b'.mem Xv) _ (b'.mem Xv) (lU (lo+i) (lo+(l+r)/2) (by lia) (by lia) (by lia)) e'
  ·rintro c dq ⟨rfl,l,r,rfl,a1,a2,a3,a4,a5⟩;exact⟨rfl,l,r,rfl,by lia,a3,fun i h1 h2=>a4 i Xv h2⟩
  rintro c dq ⟨rfl,l,r,rfl,a1,a2,a3⟩;dsimp only;refine wpS_bind ?_;rw[moveDown'_eq];refine wpS_modify (wpS_pure ?_);have hsz:lo+k<(arrOf dq).size:=by rw[b'.size];lia
  have gb:=fun t=>IG (xs:=arrOf dq) hsz (d:=lo+k-(lo+l)) (by lia) t
  have es:lo+k-(lo+k-(lo+l))=lo+l:=by lia
  rw[es]at gb;refine⟨rfl,b'.set (bubble_perm _ _ _),hp,fun t ht=>?_,fun i j hi r6 hj=>?_⟩
  ·show gg (bubble (arrOf dq) (lo+k) (lo+k-(lo+l))) t=_;rw[gb,Xk Xv,Xk Xv];exact hf t ht
  ·show lt (gg (bubble (arrOf dq) (lo+k) (lo+k-(lo+l))) i) (gg (bubble (arrOf dq) (lo+k) (lo+k-(lo+l))) j)=true;rw[gb,gb];have Ux:∀t,lo≤t→t<lo+l→lt (gg (arrOf dq) t) (gg (arrOf dq) (lo+k))=true:=fun t h1 h2=>by have:=a2 (t-lo) (by lia);rw[show lo+(t-lo)=t by lia]at this;exact this
   have Uy:∀t,lo+l≤t→t<lo+k→lt (gg (arrOf dq) (lo+k)) (gg (arrOf dq) t)=true:=fun t h1 h2=>by have:=a3 (t-lo) (by lia) (by lia);rw[show lo+(t-lo)=t by lia]at this;exact this
   by_cases e1:i=lo+l
   ·rw[Xo e1,Xk Xv,Xo Xv];exact Uy _ (by lia) (by lia)
   ·rw[Xk e1];by_cases e2:lo+l<i∧i≤lo+k
    ·rw[Xo e2,Xk Xv,Xo Xv];exact lU _ _ (by lia) (by lia) (by lia)
    ·rw[Xk e2];by_cases e3:j=lo+l
     ·rw[Xo e3];exact Ux _ (by lia) (by lia)
     ·rw[Xk e3];by_cases e4:lo+l<j∧j≤lo+k
      ·rw[Xo e4];exact lU _ _ (by lia) (by lia) (by lia)
      ·rw[Xk e4];exact lU _ _ (by lia) (by lia) (by lia)
 ·rintro c aP ⟨rfl,b',hp,hf,lU⟩;rw[show max (max ok 1) n=n by lia]at lU;exact⟨rfl,b',hp,hf,lU⟩
 ·rintro c aP ⟨rfl,b',hp,hf,lU⟩;exact wpS_pure (q aP b' hp hf lU)
end
theorem IH(ys:List Keyed)(j:Nat):∀(k:Nat)(xs:Array Keyed),j+k+ys.length≤xs.size→∀t:Nat,((ys.zipIdx k).foldl (fun c q=>c.setIfInBounds (j+q.2) q.1) xs)[t]?=if j+k≤t∧t<j+k+ys.length then ys[t-(j+k)]? else xs[t]?:=by
 induction ys with
 |nil=>
  intro k xs h t;rw[Xk (fun z=>by have z1:=z.1;have z2:=z.2;simp only[List.length_nil]at z2;lia)];rfl
 |cons y ys ih=>
  intro k xs h t;rw[List.zipIdx_cons,List.foldl_cons,ih (k+1) _ (by simp at h⊢;lia) t];simp only[List.length_cons]at h⊢;by_cases h1:j+(k+1)≤t∧t<j+(k+1)+ys.length
  ·rw[Xo h1,Xo Xv,show t-(j+k)=(t-(j+(k+1)))+1 by lia];rfl
  ·rw[Xk h1,Array.getElem?_setIfInBounds];by_cases h2:j+k=t
   ·subst h2;rw[if_pos rfl,Xo Xv,Xo Xv];simp
   ·rw[Xk h2,Xk Xv]
theorem CU(ys:List Keyed)(j:Nat)(xs:Array Keyed)(h:j+ys.length≤xs.size):(ys.zipIdx.foldl (fun c q=>c.setIfInBounds (j+q.2) q.1) xs).toList=xs.toList.take j++ys++xs.toList.drop (j+ys.length):=by
 apply List.ext_getElem?;intro t;rw[Array.getElem?_toList,IH ys j 0 xs Xv t,Nat.add_zero];by_cases h1:t<j
 ·rw[Xk Xv,List.append_assoc,List.getElem?_append_left (by simp;lia),List.getElem?_take,Xo h1,Array.getElem?_toList]
 ·by_cases h2:t<j+ys.length
  ·rw[Xo Xv,List.append_assoc,List.getElem?_append_right (by simp;lia),List.getElem?_append_left (by simp;lia)]
   congr 1
   simp
   lia
  ·rw[Xk Xv,List.getElem?_append_right (by simp;lia),List.getElem?_drop,Array.getElem?_toList]
   congr 1
   simp
   lia
section
variable{prog:Program}{w:World}{A:Around}{E:Value→Shared→Prop}{s:Shared}{X:List Keyed}{κ:SortKind}{lt:Keyed→Keyed→Bool}
theorem Sw.pw{xs:Array Keyed}{p m:Nat}(h:Sw lt xs p (p+m)):Pw lt ((xs.toList.drop p).take m):=by
 refine List.pairwise_iff_getElem.mpr ?_;intro i j hi hj r6;have Na:j<m∧p+j<xs.size:=by simp at hj;lia
 have e1:((xs.toList.drop p).take m)[i]=gg xs (p+i):=by
  have:((xs.toList.drop p).take m)[i]?=some (gg xs (p+i)):=by rw[List.getElem?_take,Xo Xv,List.getElem?_drop,Array.getElem?_toList];exact j4 Xv
  exact(Xd this).2
 have e2:((xs.toList.drop p).take m)[j]=gg xs (p+j):=by
  have:((xs.toList.drop p).take m)[j]?=some (gg xs (p+j)):=by rw[List.getElem?_take,Xo Xv,List.getElem?_drop,Array.getElem?_toList];exact j4 Xv
  exact(Xd this).2
 rw[e1,e2];exact h _ _ (by lia) (by lia) (by lia)
theorem CV{xs:Array Keyed}{p m t:Nat}(h:t<m)(hs:p+m≤xs.size):((xs.toList.drop p).take m)[t]?=some (gg xs (p+t)):=by
 rw[List.getElem?_take,Xo h,List.getElem?_drop,Array.getElem?_toList];exact j4 Xv
variable(C:CI prog w A s X κ lt)
include C
theorem LD{st:SortSt}{i p m v n u:Nat}{Q:Bool→SortSt→Prop}(b:SB X κ st)(e1:(pendingOf st)[i]?=some (p,m,v))(e2:(pendingOf st)[i+1]?=some (p+m,n,u))(hm:1≤m)(hn:1≤n)(hX:p+m+n≤X.length)(s1:Sw lt (arrOf st) p (p+m))(s2:Sw lt (arrOf st) (p+m) (p+m+n))
  (q:∀aP,SB X κ aP→pendingOf aP=((pendingOf st).setIfInBounds i (p,m+n,v)).eraseIdxIfInBounds (i+1)→(∀t,t<p∨p+m+n≤t→gg (arrOf aP) t=gg (arrOf st) t)→Sw lt (arrOf aP) p (p+m+n)→Q true aP):wpS (model prog w) A E s (mergeAt' i) Q st:=by
 rw[ID];refine wpS_bind (wpS_get ?_);rw[e1,e2];dsimp only;refine wpS_bind (EW ?_);have hsz:=b.size;refine wpS_bind (d_ (j4 (xs:=arrOf st) (k:=p+m) (by lia)) ?_);have mem:∀t,t<X.length→gg (arrOf st) t∈X:=fun t h=>b.mem h
 generalize II:setPending st (((pendingOf st).setIfInBounds i (p,m+n,v)).eraseIdxIfInBounds (i+1))=X9;have X6:arrOf X9=arrOf st:=by rw[←II]
 have b1:SB X κ X9:=by rw[←II];exact⟨b.pm,b.kd,b.fl⟩
 have JR:pendingOf X9=((pendingOf st).setIfInBounds i (p,m+n,v)).eraseIdxIfInBounds (i+1):=by rw[←II]
 refine wpS_bind (oV C (fun t=>gg (arrOf st) (p+t)) b1.kd (mem _ (by lia)) (fun t ht=>⟨j4 Xv,mem _ (by lia)⟩) (fun x y h1 h2=>s1 _ _ (by lia) (by lia) (by lia)) (by lia) fun k hk g1 g2=>?_);dsimp only;have LF:∀t,t<k→lt (gg (arrOf st) (p+t)) (gg (arrOf st) (p+m))=true:=fun t ht=>by
  have:=g1 t ht;simp only[j8,Bool.false_eq_true,if_false,Bool.not_eq_true']at this;exact b.no C (by lia) (by lia) (by lia) this
 have Rw:∀t,k≤t→t<m→lt (gg (arrOf st) (p+m)) (gg (arrOf st) (p+t))=true:=fun t h1 h2=>by
  have:=g2 t h1 h2;simp only[j8,Bool.false_eq_true,if_false,Bool.not_eq_false']at this;exact this
 have tr:=fun{x y z:Nat}(hx:x<X.length)(hy:y<X.length)(hz:z<X.length)=>C.tr _ (mem x hx) _ (mem y hy) _ (mem z hz)
 by_cases ek:(m-k==0)=true
 ·rw[Xo ek];have:k=m:=by have:=beq_iff_eq.mp ek;lia
  subst this;refine wpS_pure (q X9 b1 JR (fun _ _=>by rw[X6]) ?_);rw[X6];intro x y hx X8 hy;by_cases h1:y<p+k
  ·exact s1 x y hx X8 h1
  ·by_cases h2:p+k≤x
   ·exact s2 x y h2 X8 hy
   ·have h3:=LF (x-p) (by lia);rw[show p+(x-p)=x by lia]at h3;by_cases h4:y=p+k
    ·rw[h4];exact h3
    ·exact tr Xv (by lia) (by lia) h3 (s2 (p+k) y Xv (by lia) hy)
 rw[Xk ek];have ek:k<m:=by
  have:m-k≠0:=fun z=>ek (beq_iff_eq.mpr z)
  lia
 refine wpS_bind (d_ (j4 (xs:=arrOf st) (k:=p+k+(m-k)-1) (by lia)) ?_);rw[show p+k+(m-k)-1=p+m-1 by lia];refine wpS_bind (oV C (fun t=>gg (arrOf st) (p+m+t)) b1.kd (mem _ (by lia)) (fun t ht=>⟨j4 Xv,mem _ (by lia)⟩) (fun x y h1 h2=>s2 _ _ (by lia) (by lia) (by lia)) (by lia) fun l hl g3 g4=>?_);dsimp only;have PB:∀t,t<l→lt (gg (arrOf st) (p+m+t)) (gg (arrOf st) (p+m-1))=true:=fun t ht=>by
  have:=g3 t ht;simp only[j8,if_true]at this;exact this
 have Rx:∀t,l≤t→t<n→lt (gg (arrOf st) (p+m-1)) (gg (arrOf st) (p+m+t))=true:=fun t h1 h2=>by
  have:=g4 t h1 h2;simp only[j8,if_true]at this;exact b.no C (by lia) (by lia) (by lia) this
 have Ik:0<l:=by
  rcases Nat.lt_or_ge 0 l with h|h
  ·exact h
  ·have h1:=Rx 0 (by lia) (by lia);have h2:=Rw (m-1) (by lia) (by lia);rw[show p+(m-1)=p+m-1 by lia]at h2;rw[Nat.add_zero]at h1;have:=C.as _ (mem _ (by lia)) _ (mem _ (by lia)) h1;rw[h2]at this;cases this
 rw[Xk (by simp;lia)];have ex:((arrOf st).extract (p+k) (p+m)).toList=((arrOf st).toList.drop (p+k)).take (m-k):=by
  simp[Array.toList_extract,List.extract_eq_take_drop]
  congr 1
  lia
 have ey:((arrOf st).extract (p+m) (p+m+l)).toList=((arrOf st).toList.drop (p+m)).take l:=by
  simp[Array.toList_extract,List.extract_eq_take_drop]
 have Ry:∀t,t<m-k→(((arrOf st).toList.drop (p+k)).take (m-k))[t]?=some (gg (arrOf st) (p+k+t)):=fun t ht=>CV ht Xv
 have Rz:∀t,t<l→(((arrOf st).toList.drop (p+m)).take l)[t]?=some (gg (arrOf st) (p+m+t)):=fun t ht=>CV ht Xv
 have lx:(((arrOf st).toList.drop (p+k)).take (m-k)).length=m-k:=by simp;lia
 have ly:(((arrOf st).toList.drop (p+m)).take l).length=l:=by simp;lia
 have Nb:∀x∈((arrOf st).toList.drop (p+k)).take (m-k),∃t,t<m-k∧x=gg (arrOf st) (p+k+t):=fun x hx=>by
  obtain⟨t,ht⟩:=List.mem_iff_getElem?.mp hx;have gT:=(Xd ht).1;rw[lx]at gT;rw[Ry t gT]at ht;exact⟨t,gT,(Option.some.inj ht).symm⟩
 have Nc:∀x∈((arrOf st).toList.drop (p+m)).take l,∃t,t<l∧x=gg (arrOf st) (p+m+t):=fun x hx=>by
  obtain⟨t,ht⟩:=List.mem_iff_getElem?.mp hx;have gT:=(Xd ht).1;rw[ly]at gT;rw[Rz t gT]at ht;exact⟨t,gT,(Option.some.inj ht).symm⟩
 have MM:MC X lt ((arrOf st).extract (p+k) (p+m)).toList ((arrOf st).extract (p+m) (p+m+l)).toList:=by
  rw[ex,ey];refine⟨Sw.pw fun x y h1 h2 h3=>s1 x y Xv h2 Xv,Sw.pw fun x y h1 h2 h3=>s2 x y h1 h2 Xv,fun x hx=>?_,fun x hx=>?_,fun x hx y hy=>?_,fun x hx y hy=>?_,fun y hy x hx=>?_⟩
  ·obtain⟨t,ht,rfl⟩:=Nb x hx;exact mem _ (by lia)
  ·obtain⟨t,ht,rfl⟩:=Nc x hx;exact mem _ (by lia)
  ·obtain⟨t,ht,rfl⟩:=Nb x hx;obtain⟨u,hu,rfl⟩:=Nc y hy;exact b.inj C (by lia) (by lia) (by lia)
  ·obtain⟨t,ht,rfl⟩:=Nb x hx;rw[Rz 0 Ik]at hy;cases hy;have:=Rw (k+t) (by lia) (by lia);rw[←Nat.add_assoc]at this;exact this
  ·obtain⟨t,ht,rfl⟩:=Nc y hy;rw[lx,Ry _ (by lia)]at hx;cases hx;rw[show p+k+(m-k-1)=p+m-1 by lia];exact PB t ht
 have fin:∀r dq,Eg X9 dq→MG lt ((arrOf st).extract (p+k) (p+m)).toList ((arrOf st).extract (p+m) (p+m+l)).toList r.toList→wpS (model prog w) A E s (do
   modify fun st=>Bp (p+k) r st
   return (failedOf (←get)).isNone) Q dq:=fun r dq eg mg=>by
  refine wpS_bind (wpS_modify (wpS_bind (wpS_get (wpS_pure ?_))));have JS:arrOf dq=arrOf st:=eg.2.1.trans X6;have Nd:failedOf dq=none:=eg.2.2.2.trans b1.fl;rw[ex,ey]at mg;have JT:r.toList.length=m-k+l:=by have:=mg.1.length_eq;rw[List.length_append,lx,ly]at this;exact this
  have el:(arrOf (Bp (p+k) r dq)).toList=(arrOf st).toList.take (p+k)++r.toList++(arrOf st).toList.drop (p+m+l):=by
   show(r.toList.zipIdx.foldl (fun c q=>c.setIfInBounds (p+k+q.2) q.1) (arrOf dq)).toList=_;rw[CU _ _ _ (by rw[JS,JT];lia),JS,JT,show p+k+(m-k+l)=p+m+l by lia]
  have Uz:(arrOf st).toList=(arrOf st).toList.take (p+k)++(((arrOf st).toList.drop (p+k)).take (m-k)++((arrOf st).toList.drop (p+m)).take l)++(arrOf st).toList.drop (p+m+l):=by
   have h1:=nk (arrOf st).toList (p+k) (m-k);have h2:=nk (arrOf st).toList (p+m) l;rw[show p+k+(m-k)=p+m by lia]at h1
   conv=>lhs;rw[←List.take_append_drop (p+k) (arrOf st).toList,h1,h2]
   simp only[List.append_assoc]
  have PF:∀t,gg (arrOf (Bp (p+k) r dq)) t=((arrOf (Bp (p+k) r dq)).toList[t]?).getD (.none, .none):=fun t=>by rw[nq,Array.getElem?_toList]
  have g0:∀t,gg (arrOf st) t=((arrOf st).toList[t]?).getD (.none, .none):=fun t=>by rw[nq,Array.getElem?_toList]
  have IJ:∀t,t<p+k→gg (arrOf (Bp (p+k) r dq)) t=gg (arrOf st) t:=fun t ht=>by
   rw[PF,g0,el,List.append_assoc,List.getElem?_append_left (by simp;lia),List.getElem?_take,Xo ht]
  have CW:∀t,p+m+l≤t→gg (arrOf (Bp (p+k) r dq)) t=gg (arrOf st) t:=fun t ht=>by
   have gT:((arrOf st).toList.take (p+k)++r.toList).length=p+m+l:=by
    rw[List.length_append,JT,List.length_take,Array.length_toList]
    lia
   rw[PF,g0,el,List.getElem?_append_right Xv,List.getElem?_drop,gT]
   congr 2
   lia
  have PH:∀t,p+k≤t→t<p+m+l→r.toList[t-(p+k)]?=some (gg (arrOf (Bp (p+k) r dq)) t):=fun t h1 h2=>by
   rw[PF,el,List.append_assoc,List.getElem?_append_right (by simp;lia),List.getElem?_append_left (by rw[List.length_take,Array.length_toList];lia)];rw[show(List.take (p+k) (arrOf st).toList).length=p+k by simp;lia];rw[List.getElem?_eq_getElem Xv];rfl
  have cont:∀t,p+k≤t→t<p+m+l→∃u,p+k≤u∧u<p+m+l∧gg (arrOf (Bp (p+k) r dq)) t=gg (arrOf st) u:=fun t h1 h2=>by
   have:=mg.1.mem_iff.mp (Xi (PH t h1 h2));rcases List.mem_append.mp this with z|z
   ·obtain⟨u,hu,e⟩:=Nb _ z;exact⟨p+k+u,by lia,by lia,e⟩
   ·obtain⟨u,hu,e⟩:=Nc _ z;exact⟨p+m+u,by lia,by lia,e⟩
  have hb:SB X κ (Bp (p+k) r dq):=by
   refine⟨?_,eg.1.trans b1.kd,Nd⟩;rw[el];refine List.Perm.trans ?_ b.pm
   conv=>rhs;rw[Uz]
   exact(List.Perm.append_left _ mg.1).append_right _
  have Kl:(failedOf (Bp (p+k) r dq)).isNone=true:=by rw[show failedOf (Bp (p+k) r dq)=failedOf dq from rfl,Nd];rfl
  rw[Kl];refine q _ hb (eg.2.2.1.trans JR) (fun t ht=>?_) fun x y hx X8 hy=>?_
  ·rcases ht with ht|ht
   ·exact IJ t (by lia)
   ·exact CW t (by lia)
  ·
   have A1:∀t u,p≤t→t<p+k→p+k≤u→u<p+m+n→lt (gg (arrOf st) t) (gg (arrOf st) u)=true:=fun t u h1 h2 h3 h4=>by
    by_cases h5:u<p+m
    ·exact s1 t u h1 Xv h5
    ·have h6:=LF (t-p) (by lia);rw[show p+(t-p)=t by lia]at h6;by_cases h7:u=p+m
     ·rw[h7];exact h6
     ·exact tr Xv (by lia) (by lia) h6 (s2 (p+m) u Xv (by lia) h4)
   have A2:∀t u,p+k≤t→t<p+m+l→p+m+l≤u→u<p+m+n→lt (gg (arrOf st) t) (gg (arrOf st) u)=true:=fun t u h1 h2 h3 h4=>by
    by_cases h5:p+m≤t
    ·exact s2 t u h5 Xv h4
    ·have h6:=Rx (u-(p+m)) (by lia) (by lia);rw[show p+m+(u-(p+m))=u by lia]at h6;by_cases h7:t=p+m-1
     ·rw[h7];exact h6
     ·exact tr Xv (by lia) (by lia) (s1 t (p+m-1) (by lia) (by lia) (by lia)) h6
   by_cases h1:x<p+k
   ·rw[IJ x h1];by_cases h2:y<p+k
    ·rw[IJ y h2];exact s1 x y hx X8 Xv
    ·by_cases h3:y<p+m+l
     ·obtain⟨u,u1,u2,u3⟩:=cont y Xv h3;rw[u3];exact A1 x u hx h1 u1 Xv
     ·rw[CW y Xv];exact A1 x y hx h1 Xv hy
   ·by_cases h3:x<p+m+l
    ·by_cases h4:y<p+m+l
     ·exact mg.2.at (i:=x-(p+k)) (j:=y-(p+k)) (by lia) (PH x (by lia) h3) (PH y Xv h4)
     ·rw[CW y Xv];obtain⟨u,u1,u2,u3⟩:=cont x (by lia) h3;rw[u3];exact A2 u y u1 u2 Xv hy
    ·rw[CW x (by lia),CW y Xv];exact s2 x y Xv X8 hy
 have sx:0<((arrOf st).extract (p+k) (p+m)).size:=by simp;lia
 have sy:0<((arrOf st).extract (p+m) (p+m+l)).size:=by simp;lia
 by_cases RA:m-k≤l
 ·rw[Xo RA];exact wpS_bind (Iq C MM b1.kd sx sy fin)
 ·rw[Xk RA];exact wpS_bind (IA C MM b1.kd sx sy fin)
end
abbrev Rn:=Nat×Nat×Nat
def Ch:List Rn→Nat→Nat→Prop
 |[],s,e=>s=e
 |q::r,s,e=>q.1=s∧1≤q.2.1∧Ch r (s+q.2.1) e
theorem Ch.all:∀{l:List Rn}{s e:Nat},Ch l s e→s+l.length≤e∧∀q∈l,s≤q.1∧q.1+q.2.1≤e
 |[],s,e,h=>⟨by have:s=e:=h;simp;lia,fun q hq=>by cases hq⟩
 |q::r,s,e,⟨h1,h2,h3⟩=>by
  obtain⟨a1,a2⟩:=Ch.all h3;refine⟨by simp;lia,fun x hx=>?_⟩;rcases List.mem_cons.mp hx with rfl|hx
  ·lia
  ·have:=a2 x hx;lia
theorem Ch.split:∀{l r:List Rn}{s e:Nat},Ch (l++r) s e↔∃m,Ch l s m∧Ch r m e
 |[],r,s,e=>⟨fun h=>⟨s,rfl,h⟩,fun⟨m,h1,h2⟩=>by have:s=m:=h1;rw[this];exact h2⟩
 |q::l,r,s,e=>by
  constructor
  ·rintro⟨h1,h2,h3⟩;obtain⟨m,a1,a2⟩:=Ch.split.mp h3;exact⟨m,⟨h1,h2,a1⟩,a2⟩
  ·rintro⟨m,⟨h1,h2,a1⟩,a2⟩;exact⟨h1,h2,Ch.split.mpr ⟨m,a1,a2⟩⟩
theorem Ch.mod{f:Rn→Rn}(hf:∀q,(f q).1=q.1∧(f q).2.1=q.2.1):∀{l:List Rn}{j s e:Nat},Ch l s e→Ch (l.modify j f) s e
 |[],j,s,e,h=>by simpa using h
 |q::r,0,s,e,h=>by
  rw[List.modify_zero_cons];obtain⟨h1,h2,h3⟩:=h;refine⟨by rw[(hf q).1];exact h1,by rw[(hf q).2];exact h2,by rw[(hf q).2];exact h3⟩
 |q::r,j+1,s,e,h=>by
  rw[List.modify_succ_cons];exact⟨h.1,h.2.1,Ch.mod hf h.2.2⟩
theorem Yo{f:Rn→Rn}:∀{l:List Rn}{j:Nat}{q:Rn},q∈l.modify j f→q∈l∨∃x∈l,q=f x
 |[],j,q,h=>by simp at h
 |x::r,0,q,h=>by
  rw[List.modify_zero_cons]at h;rcases List.mem_cons.mp h with h|h
  ·exact .inr ⟨x,XA,h⟩
  ·exact .inl (List.mem_cons_of_mem _ h)
 |x::r,j+1,q,h=>by
  rw[List.modify_succ_cons]at h;rcases List.mem_cons.mp h with h|h
  ·exact .inl (by rw[h];simp)
  ·rcases Yo h with h|⟨y,h1,h2⟩
   ·exact .inl (List.mem_cons_of_mem _ h)
   ·exact .inr ⟨y,List.mem_cons_of_mem _ h1,h2⟩
structure RI(X:List Keyed)(κ:SortKind)(lt:Keyed→Keyed→Bool)(st:SortSt)(lo n:Nat):Prop where
 b:SB X κ st
 ch:Ch (pendingOf st).toList 0 lo
 sw:∀q∈(pendingOf st).toList,Sw lt (arrOf st) q.1 (q.1+q.2.1)
 tl:Sw lt (arrOf st) lo (lo+n)
section
variable{prog:Program}{w:World}{A:Around}{E:Value→Shared→Prop}{s:Shared}{X:List Keyed}{κ:SortKind}{lt:Keyed→Keyed→Bool}(C:CI prog w A s X κ lt)
include C
theorem Gh{st:SortSt}{lo n i:Nat}{Q:Bool→SortSt→Prop}(r:RI X κ lt st lo n)(JK:lo≤X.length)(hi:i+1<(pendingOf st).size)(q:∀aP,RI X κ lt aP lo n→(pendingOf aP).size+1=(pendingOf st).size→Q true aP):wpS (model prog w) A E s (mergeAt' i) Q st:=by
 have hl:(pendingOf st).toList.length=(pendingOf st).size:=XA;obtain⟨P1,x,y,P2,e,el⟩:∃P1 x y P2,(pendingOf st).toList=P1++x::y::P2∧P1.length=i:=by
  refine⟨(pendingOf st).toList.take i,(pendingOf st).toList[i],(pendingOf st).toList[i+1],(pendingOf st).toList.drop (i+2),?_,by simp;lia⟩
  conv=>lhs;rw[←List.take_append_drop i (pendingOf st).toList]
  rw[List.drop_eq_getElem_cons Xv,List.drop_eq_getElem_cons Xv]
 obtain⟨p,m,v⟩:=x;obtain⟨p2,k,u⟩:=y;have ch:=r.ch;rw[e]at ch;obtain⟨mid,c1,c2⟩:=Ch.split.mp ch;obtain⟨d1,d2,d3,d4,d5⟩:=c2;dsimp only at d1 d2 d3 d4 d5;subst d1 d3;have a1:=c1.all;have a2:=d5.all;have i1:(pendingOf st)[i]?=some (p,m,v):=by rw[←Array.getElem?_toList,e,List.getElem?_append_right Xv,el];simp
 have i2:(pendingOf st)[i+1]?=some (p+m,k,u):=by rw[←Array.getElem?_toList,e,List.getElem?_append_right Xv,el];simp
 have w1:=r.sw (p,m,v) (by rw[e];simp);have w2:=r.sw (p+m,k,u) (by rw[e];simp);refine LD C r.b i1 i2 d2 d4 Xv w1 w2 fun aP b' hp IK OU=>?_
 have ep:(pendingOf aP).toList=P1++(p,m+k,v)::P2:=by
  rw[hp];simp only[Array.toList_eraseIdxIfInBounds,Array.toList_setIfInBounds];rw[e,List.set_append_right _ _ (by lia),el,Nat.sub_self,List.set_cons_zero,List.eraseIdx_append_of_length_le Xv,el,show i+1-i=1 by lia];rfl
 refine q aP ⟨b',?_,fun z hz=>?_,r.tl.congr fun t h1 h2=>IK t (.inr Xv)⟩ ?_
 ·rw[ep];refine Ch.split.mpr ⟨p,c1,rfl,by show 1≤m+k;lia,?_⟩;show Ch P2 (p+(m+k)) lo;rw[←Nat.add_assoc];exact d5
 ·rw[ep]at hz;rcases List.mem_append.mp hz with hz|hz
  ·have h1:=a1.2 z hz;exact(r.sw z (by rw[e];simp[hz])).congr fun t _ h2=>IK t (.inl Xv)
  ·rcases List.mem_cons.mp hz with rfl|hz
   ·show Sw lt (arrOf aP) p (p+(m+k));rw[←Nat.add_assoc];exact OU
   ·have h1:=a2.2 z hz;exact(r.sw z (by rw[e];simp[hz])).congr fun t h2 _=>IK t (.inr Xv)
 ·have h1:=congrArg List.length ep;have h2:=congrArg List.length e;simp at h1 h2
  lia
theorem IL{st:SortSt}{lo n N w':Nat}{Q:Option Unit×Unit→SortSt→Prop}(r:RI X κ lt st lo n)(JK:lo≤X.length)(q:∀aP,RI X κ lt aP lo n→Q (none,()) aP):wpS (model prog w) A E s (Py N w') Q st:=by
 unfold Py;refine wpS_forRange (I:=fun _ c aP=>c=(none,())∧RI X κ lt aP lo n) ?_ (fun c aP h=>by rw[h.1];exact q aP h.2) ⟨rfl,r⟩;rintro x c aP _ _ ⟨rfl,r'⟩;refine wpS_bind (wpS_get ?_);by_cases hs:(pendingOf aP).size>1
 ·rw[Xo hs];have e:(pendingOf aP)[(pendingOf aP).size-2]?=some (pendingOf aP)[(pendingOf aP).size-2]:=XA;rw[e];generalize (pendingOf aP)[(pendingOf aP).size-2]=z;obtain⟨z1,z2,z3⟩:=z;dsimp only;split
  ·exact wpS_pure (q aP r')
  ·refine wpS_bind (Gh C r' JK Xv fun dq r2 _=>?_);rw[if_neg Xr];exact wpS_pure ⟨rfl,r2⟩
 ·rw[Xk hs];exact wpS_pure (q aP r')
theorem CY{st:SortSt}{lo n N:Nat}{Q:ForInStep (Option Unit×Nat)→SortSt→Prop}(r:RI X κ lt st lo n)(h1:1≤n)(JK:lo+n≤X.length)(q:∀aP,RI X κ lt aP (lo+n) 0→Q (.yield (none,lo+n)) aP):wpS (model prog w) A E s (M_ N lo n) Q st:=by
 have push:∀aP,RI X κ lt aP lo n→RI X κ lt (M9 lo n aP) (lo+n) 0:=fun aP r'=>by
  have ep:(pendingOf (M9 lo n aP)).toList=(pendingOf aP).toList++[(lo,n,0)]:=by
   show((pendingOf aP).push (lo,n,0)).toList=_;simp
  refine⟨⟨r'.b.pm,r'.b.kd,r'.b.fl⟩,?_,fun z hz=>?_,fun i j a b c=>by lia⟩
  ·rw[ep];exact Ch.split.mpr ⟨lo,r'.ch,rfl,h1,rfl⟩
  ·rw[ep]at hz;rcases List.mem_append.mp hz with hz|hz
   ·exact r'.sw z hz
   ·have:z=(lo,n,0):=by simpa using hz
    subst this;exact r'.tl
 unfold M_;refine wpS_bind (wpS_get ?_);cases e:(pendingOf st).back? with
 |none=>exact wpS_bind (wpS_modify (wpS_pure (q _ (push _ r))))
 |some z=>
  obtain⟨z1,z2,z3⟩:=z;dsimp only;refine wpS_bind (IL C r Xv fun dq r2=>?_);dsimp only;refine wpS_bind (wpS_modify (wpS_bind (wpS_modify (wpS_pure (q _ (push _ ?_))))));have ep:(pendingOf (Ru (power' N (2*z1+z2) (2*z1+z2+z2+n) N) dq)).toList=(pendingOf dq).toList.modify ((pendingOf dq).size-1) fun(p,l,_)=>(p,l,power' N (2*z1+z2) (2*z1+z2+z2+n) N):=by
   show((pendingOf dq).modify _ _).toList=_;simp
  refine⟨⟨r2.b.pm,r2.b.kd,r2.b.fl⟩,?_,fun z hz=>?_,r2.tl⟩
  ·rw[ep];refine Ch.mod ?_ r2.ch;exact fun _=>⟨rfl,rfl⟩
  ·rw[ep]at hz;rcases Yo hz with hz|⟨x,h1,h2⟩
   ·exact r2.sw z hz
   ·rw[h2];exact r2.sw x h1
theorem IM{st:SortSt}{N:Nat}{Q:Option Unit×Unit→SortSt→Prop}(hN:N=X.length)(h0:0<N)(r:RI X κ lt st N 0)(q:∀aP,SB X κ aP→Sw lt (arrOf aP) 0 N→Q (none,()) aP):wpS (model prog w) A E s (Pz N) Q st:=by
 have one:∀aP,RI X κ lt aP N 0→(pendingOf aP).size≤1→Q (none,()) aP:=fun aP r' hs=>by
  have ch:=r'.ch;have sw:=r'.sw;cases e:(pendingOf aP).toList with
  |nil=>rw[e]at ch;have:0=N:=ch;lia
  |cons x l=>
   have hl:l=[]:=by
    have:=congrArg List.length e;simp at this;exact List.length_eq_zero_iff.mp Xv
   subst hl;rw[e]at ch sw;obtain⟨c1,c2,c3⟩:=ch;have c3:0+x.2.1=N:=c3;have:=sw x (XA);rw[c1,c3]at this;exact q aP r'.b this
 unfold Pz;refine wpS_forRange (I:=fun x c aP=>c=(none,())∧RI X κ lt aP N 0∧((pendingOf aP).size+x≤N∨(pendingOf aP).size≤1)) ?_ ?_ ⟨rfl,r, .inl ?_⟩
 ·rintro x c aP _ hx ⟨rfl,r',hs⟩;refine wpS_bind (wpS_get ?_);by_cases h1:(pendingOf aP).size≤1
  ·rw[Xo h1];exact wpS_pure (one aP r' h1)
  ·rw[Xk h1];refine wpS_bind (Gh C r' Xv ?_ fun dq r2 Hq=>?_)
   ·have key:∀c:Bool,(if c=true then(pendingOf aP).size-2-1 else(pendingOf aP).size-2)+1<(pendingOf aP).size:=fun c=>by cases c<;>simp<;>lia
    exact key _
   ·rw[if_neg Xr];exact wpS_pure ⟨rfl,r2,by lia⟩
 ·rintro c aP ⟨rfl,r',hs⟩;exact one aP r' (by rcases hs with hs|hs<;>lia)
 ·have:=r.ch.all.1;simp at this
  lia
theorem IP{st:SortSt}{Q:Unit→SortSt→Prop}(h0:0<X.length)(b:SB X κ st)(hp:pendingOf st=#[])(q:∀aP,SB X κ aP→Sw lt (arrOf aP) 0 X.length→Q () aP):wpS (model prog w) A E s sortRuns' Q st:=by
 rw[EV];refine wpS_bind (wpS_get ?_);rw[b.size];refine wpS_bind (wpS_mono (wpS_forRange (I:=fun x c aP=>∃lo,c=(none,lo)∧RI X κ lt aP lo 0∧lo≤X.length∧x≤lo) (Q:=fun c aP=>c.1=none∧RI X κ lt aP X.length 0) ?_ ?_ ⟨0,rfl,⟨b,by rw[hp];rfl,(fun q hq=>by rw[hp]at hq;cases hq),fun i j a b c=>by lia⟩,by lia,by lia⟩) ?_)
 ·rintro x c aP _ hx ⟨lo,rfl,r,JK,Nf⟩;dsimp only;by_cases h1:lo≥X.length
  ·rw[Xo h1];have:lo=X.length:=by lia
   subst this;exact wpS_pure ⟨rfl,r⟩
  ·rw[Xk h1];refine wpS_bind (LB C r.b Xv (by lia) fun m dq b2 BQ Nd m1 m2 Ng=>?_);dsimp only;have r2:RI X κ lt dq lo m:=⟨b2,by rw[BQ];exact r.ch,fun z hz=>by
    rw[BQ]at hz;have:=r.ch.all.2 z hz;exact(r.sw z hz).congr fun t _ h2=>Nd t (by lia),Ng⟩
   by_cases h2:m<minRun' X.length X.length 0
   ·rw[Xo h2];refine wpS_bind (wpS_lift (wpAny_rule ⟨rfl,?_⟩));refine wpS_bind (LC C b2 (n:=min (X.length-lo) (minRun' X.length X.length 0)) (by lia) m1 Xv Ng fun BG b3 RB UA UB=>?_);rw[if_neg Xr];refine CY C ⟨b3,by rw[RB,BQ];exact r.ch,fun z hz=>?_,UB⟩ Xv (by lia) fun MR r4=>⟨_,rfl,r4,by lia,by lia⟩
    rw[RB]at hz;have:=r2.ch.all.2 z hz;exact(r2.sw z hz).congr fun t _ h2=>UA t (by lia)
   ·rw[Xk h2];exact CY C r2 m1 Xv fun MR r4=>⟨_,rfl,r4,by lia,by lia⟩
 ·rintro c aP ⟨lo,rfl,r,JK,Nf⟩;have:lo=X.length:=by lia
  subst this;exact⟨rfl,r⟩
 ·rintro⟨c1,c2⟩ aP ⟨e,r⟩;dsimp only at e⊢;subst e;exact wpS_bind (IM C rfl h0 r fun dq b2 Ng=>wpS_pure (q dq b2 Ng))
end
open Classical in
noncomputable def CZ(X:List Keyed)(x:Keyed):Nat:=if h:∃i:Nat,X[i]?=some x then Classical.choose h else 0
theorem ma{X:List Keyed}{x:Keyed}(h:x∈X):X[CZ X x]?=some x:=by
 have h':∃i:Nat,X[i]?=some x:=List.mem_iff_getElem?.mp h;unfold CZ;rw[dif_pos h'];exact Classical.choose_spec h'
theorem IQ{X:List Keyed}(nd:X.Nodup){i:Nat}{x:Keyed}(h:X[i]?=some x):CZ X x=i:=by
 have:=ma (Xi h);exact(List.getElem?_inj (Xd this).1 nd).mp (this.trans h.symm)
theorem me{X:List Keyed}{x:Keyed}(h:x∈X):CZ X x<X.length:=(Xd (ma h)).1
section
variable{prog:Program}{w:World}{A:Around}{E:Value→Shared→Prop}{s:Shared}{X:List Keyed}{κ:SortKind}{lt:Nat→Nat→Bool}
theorem EX{st:SortSt}{Q:Unit→SortSt→Prop}(nd:X.Nodup)(h0:0<X.length)(L:XX X.length lt)(ha:(arrOf st).toList=X)(hk:kindOf st=κ)(hp:pendingOf st=#[])(hf:failedOf st=none)
  (hc:∀i j x y,X[i]?=some x→X[j]?=some y→∀C:Bool→Shared→Prop,C (lt i j) s→wpAny (model prog w) A (keyLt' κ x.1 y.1) C (fun _ _=>False) s)
  (q:∀p aP,vL X.length p→Sd lt p X.length→(arrOf aP).toList=p.toList.map (fun i=>X.getD i (.none, .none))→failedOf aP=none→Q () aP):wpS (model prog w) A E s sortRuns' Q st:=by
 have C:CI prog w A s X κ fun x y=>lt (CZ X x) (CZ X y):=by
  refine⟨fun x hx y hy=>hc _ _ x y (ma hx) (ma hy),fun x hx y hy z hz=>L.tr _ _ _ (me hx) (me hy) (me hz),fun x hx y hy=>L.as _ _ (me hx) (me hy),fun x hx y hy hn=>L.Pd _ _ (me hx) (me hy) fun e=>hn ?_,nd⟩;have h1:=ma hx;rw[e,ma hy]at h1;exact(Option.some.inj h1).symm
 refine IP C h0 ⟨by rw[ha],hk,hf⟩ hp fun aP b sw=>?_
 have mem:∀x∈(arrOf aP).toList,x∈X:=fun x hx=>b.pm.mem_iff.mp hx
 refine q ((arrOf aP).map (CZ X)) aP ?_ (fun i j r6 hj=>?_) ?_ b.fl
 ·unfold vL;rw[Array.toList_map];have h1:=b.pm.map (CZ X);have h2:X.map (CZ X)=List.range X.length:=by
   apply List.ext_getElem
   ·simp
   ·intro i h1 h2;simp only[List.getElem_map,List.getElem_range];exact IQ nd (by simp at h1;simp[h1])
  rw[h2]at h1;exact h1
 ·have:=sw i j (Nat.zero_le _) r6 hj;have g:∀k,k<X.length→gd ((arrOf aP).map (CZ X)) k=CZ X (gg (arrOf aP) k):=fun k hk=>by
   have Ct:k<(arrOf aP).size:=by rw[b.size];exact hk
   rw[CH,nq];simp[Ct]
  rw[g i Xv,g j hj];exact this
 ·rw[Array.toList_map,List.map_map]
  conv=>lhs;rw[←List.map_id (arrOf aP).toList]
  apply List.map_congr_left;intro x hx;have:=ma (mem x hx);simp[List.getD_eq_getElem?_getD,this]
theorem YX{ks vs:List Value}(hl:ks.length=vs.length)(h0:0<vs.length)(L:XX vs.length lt)(nd:ks.Nodup)
  (hc:∀i j,i<vs.length→j<vs.length→∀C:Bool→Shared→Prop,C (lt i j) s→wpAny (model prog w) A (keyLt' κ (ks.getD i .none) (ks.getD j .none)) C (fun _ _=>False) s):
  wpAny (model prog w) A ((sortRuns').run (SortSt.mk' κ (ks.toArray.zip vs.toArray) #[] 7 none)) (fun r s'=>∃p:Array Nat,s'=s∧vL vs.length p∧Sd lt p vs.length∧arrOf r.2=p.map (kas_item (ks.toArray.zip vs.toArray))∧failedOf r.2=none) E s:=by
 have hz:(ks.zip vs).length=vs.length:=by rw[List.length_zip];lia
 have ea:(ks.toArray.zip vs.toArray).toList=ks.zip vs:=XA;have UC:(ks.zip vs).Nodup:=by
  refine List.pairwise_iff_getElem.mpr fun i j hi hj r6 e=>?_
  rw[List.getElem_zip,List.getElem_zip]at e;have:=(List.getElem_inj nd).mp (Prod.mk.inj e).1
  lia
 have run:=EX (prog:=prog) (w:=w) (A:=A) (E:=E) (s:=s) (X:=ks.zip vs) (κ:=κ) (lt:=lt) (st:=SortSt.mk' κ (ks.toArray.zip vs.toArray) #[] 7 none) (Q:=fun _ aP=>∃p:Array Nat,vL vs.length p∧Sd lt p vs.length∧arrOf aP=p.map (kas_item (ks.toArray.zip vs.toArray))∧failedOf aP=none) UC Xv (by rw[hz];exact L) ea rfl rfl rfl (fun i j x y hx hy C h=>?_) fun p aP h1 h2 h3 h4=>⟨p,by rw[←hz];exact h1,by rw[←hz];exact h2,?_,h4⟩
 ·unfold wpS at run;refine wpAny_mono run (fun r s' ⟨h1,p,h2⟩=>⟨p,h1,h2⟩) fun _ _ e=>e
 ·obtain⟨x1,x2⟩:=x;obtain⟨y1,y2⟩:=y;have hi:=(Xd hx).1;have hj:=(Xd hy).1;rw[hz]at hi hj;obtain⟨e1,_⟩:=List.getElem?_zip_eq_some.mp hx;obtain⟨e2,_⟩:=List.getElem?_zip_eq_some.mp hy;have:=hc i j hi hj C h;simpa[List.getD_eq_getElem?_getD,e1,e2]using this
 ·apply Array.toList_inj.mp;rw[h3,Array.toList_map];apply List.map_congr_left;intro i _;unfold kas_item;rw[Array.getD_eq_getD_getElem?,←Array.getElem?_toList,ea,List.getD_eq_getElem?_getD]
end
def Kp(a:Addr)(h h':Heap):Prop:=∀b o,b≠a→h.get? b=some o→h'.get? b=some o
section
variable{prog:Program}{w:World}{A:Around}{E:Value→Shared→Prop}{s:Shared}
theorem AN{a:Addr}{vs:List Value}{n:Nat}{κ:SortKind}{lt:Nat→Nat→Bool}{P:PySem.Fin→Shared→Prop}(ho:s.heap.get? a=some (seqObj "list" vs.toArray n))(h2:2≤vs.length)(C0:vs.length<10000)(LG:vs.Nodup)(L:XX vs.length lt)
  (hk:∀s',Kp a s.heap s'.heap→∀Q':SortKind→Shared→Prop,Q' κ s'→wpAny (model prog w) A (keyKind' vs.toArray) Q' (fun _ _=>False) s')
  (hc:∀i j,i<vs.length→j<vs.length→∀s',Kp a s.heap s'.heap→∀C:Bool→Shared→Prop,C (lt i j) s'→wpAny (model prog w) A (keyLt' κ (vs.getD i .none) (vs.getD j .none)) C (fun _ _=>False) s')
  (h:∀p h' c,vL vs.length p→Sd lt p vs.length→Kp a s.heap h'→h'.get? a=some (seqObj "list" (List.toArray (p.toList.map fun i=>vs.getD i Value.none)) c)→P (.done (.ret .none)) {s with heap:=h'}):
  wpAny (model prog w) A (Builtin.«list.sort» ⟨[.ref a],[]⟩) P E s:=by
 have s1:=Heap.SameBut.update s.heap a (Obj.mapSeq fun _=>(#[]:Array Value));obtain⟨e1,Gi⟩:∃e1,(s.heap.update a (Obj.mapSeq fun _=>(#[]:Array Value))).get? a=some (seqObj "list" #[] e1):=⟨_,get?_update_seq ho fun _=>#[]⟩
 rw[list_sort_plain];refine wpAny_bind (listItems_at ho rfl (wpAny_bind (listUpdate_at ho rfl ?_ (by rw[List.size_toArray,sizeLine_eq];omega) (Nat.zero_le _))));refine wpAny_bind (seqEpoch_at Gi rfl (wpAny_bind (wpAny_newTuple (wpAny_bind (wpAny_newList (wpAny_holding ?_) (Nat.zero_le _))) (by show vs.length≤_;rw[sizeLine_eq];omega))));generalize hh:(((s.heap.update a (Obj.mapSeq fun _=>(#[]:Array Value))).push {cls:= .type "tuple",data:= .seq vs.toArray 0}).push {cls:= .type "list",data:= .seq #[] 0})=h3;have k3:Kp a s.heap h3:=fun b o hb e=>by
  rw[←hh];exact Xl (Xl ((s1.2 b hb).trans e))
 have IS:h3.get? a=some (seqObj "list" #[] e1):=by
  rw[←hh];exact Xl (Xl Gi)
 show wpAny (model prog w) A _ P E {s with heap:=h3};dsimp only;have sg:¬vs.toArray.size<2:=by rw[List.size_toArray];omega
 rw[Xk sg,Xk sg];refine wpAny_bind (wpAny_mono (hk {s with heap:=h3} k3 (fun Nh s'=>Nh=κ∧s'={s with heap:=h3}) ⟨rfl,rfl⟩) ?_ fun _ _ x=>x.elim);rintro _ _ ⟨rfl,rfl⟩;refine wpAny_bind (wpAny_mono (YX (lt:=lt) rfl (Xx) L LG fun i j hi hj C hC=>hc i j hi hj {s with heap:=h3} k3 C hC) ?_ fun _ _ e=>e);rintro⟨⟨⟩,aP⟩ s' ⟨p,rfl,hp,hs,PK,hf⟩;dsimp only;rw[kat_snds rfl PK];have hsz:(List.toArray (p.toList.map fun i=>vs.getD i Value.none)).size=vs.length:=by rw[List.size_toArray,List.length_map,Array.length_toList,hp.size]
 have s2:=Heap.SameBut.update h3 a (Obj.mapSeq fun _=>List.toArray (p.toList.map fun i=>vs.getD i Value.none));obtain⟨c2,ur⟩:∃c2,(h3.update a (Obj.mapSeq fun _=>List.toArray (p.toList.map fun i=>vs.getD i Value.none))).get? a=some (seqObj "list" (List.toArray (p.toList.map fun i=>vs.getD i Value.none)) c2):=⟨_,get?_update_seq IS fun _=>List.toArray (p.toList.map fun i=>vs.getD i Value.none)⟩
 refine wpAny_bind (seqEpoch_at (s:={s with heap:=h3}) IS rfl (wpAny_bind (listUpdate_at (s:={s with heap:=h3}) IS rfl ?_ (Nat.zero_le _) (Nat.le_trans (Nat.le_of_eq hsz) (by rw[sizeLine_eq];omega)))));rw[hf];simp only[bne_self_eq_false,Bool.false_eq_true,if_false];exact wpAny_pure (h p _ c2 hp hs (fun b o hb e=>(s2.2 b hb).trans (k3 b o hb e)) ur)
theorem wJ{a:Addr}{vs:List Value}{n:Nat}{P:PySem.Fin→Shared→Prop}(ho:s.heap.get? a=some (seqObj "list" vs.toArray n))(h2:vs.length<2)
  (h:∀h' c,Kp a s.heap h'→h'.get? a=some (seqObj "list" vs.toArray c)→P (.done (.ret .none)) {s with heap:=h'}):
  wpAny (model prog w) A (Builtin.«list.sort» ⟨[.ref a],[]⟩) P E s:=by
 have s1:=Heap.SameBut.update s.heap a (Obj.mapSeq fun _=>(#[]:Array Value));obtain⟨e1,Gi⟩:∃e1,(s.heap.update a (Obj.mapSeq fun _=>(#[]:Array Value))).get? a=some (seqObj "list" #[] e1):=⟨_,get?_update_seq ho fun _=>#[]⟩
 rw[list_sort_plain];refine wpAny_bind (listItems_at ho rfl (wpAny_bind (listUpdate_at ho rfl ?_ (by rw[List.size_toArray,sizeLine_eq];omega) (Nat.zero_le _))));refine wpAny_bind (seqEpoch_at Gi rfl (wpAny_bind (wpAny_newTuple (wpAny_bind (wpAny_newList (wpAny_holding ?_) (Nat.zero_le _))) (by show vs.length≤_;rw[sizeLine_eq];omega))));generalize hh:(((s.heap.update a (Obj.mapSeq fun _=>(#[]:Array Value))).push {cls:= .type "tuple",data:= .seq vs.toArray 0}).push {cls:= .type "list",data:= .seq #[] 0})=h3;have k3:Kp a s.heap h3:=fun b o hb e=>by
  rw[←hh];exact Xl (Xl ((s1.2 b hb).trans e))
 have IS:h3.get? a=some (seqObj "list" #[] e1):=by
  rw[←hh];exact Xl (Xl Gi)
 show wpAny (model prog w) A _ P E {s with heap:=h3};dsimp only;have sg:vs.toArray.size<2:=by rw[List.size_toArray];omega
 rw[Xo sg,Xo sg];refine wpAny_bind (wpAny_pure (wpAny_bind (wpAny_pure ?_)));dsimp only;have PL:(arrOf (SortSt.mk' general' (vs.toArray.zip vs.toArray) #[] 7 none)).map (·.2)=vs.toArray:=by
  show(vs.toArray.zip vs.toArray).map (·.2)=vs.toArray;apply Array.toList_inj.mp;rw[Array.toList_map,Array.toList_zip];exact List.map_snd_zip (Nat.le_refl _)
 have s2:=Heap.SameBut.update h3 a (Obj.mapSeq fun _=>vs.toArray);obtain⟨c2,ur⟩:∃c2,(h3.update a (Obj.mapSeq fun _=>vs.toArray)).get? a=some (seqObj "list" vs.toArray c2):=⟨_,get?_update_seq IS fun _=>vs.toArray⟩
 rw[PL];refine wpAny_bind (seqEpoch_at (s:={s with heap:=h3}) IS rfl (wpAny_bind (listUpdate_at (s:={s with heap:=h3}) IS rfl ?_ (Nat.zero_le _) (by rw[List.size_toArray,sizeLine_eq];omega))));simp only[bne_self_eq_false,Bool.false_eq_true,if_false];exact wpAny_pure (h _ c2 (fun b o hb e=>(s2.2 b hb).trans (k3 b o hb e)) ur)
theorem ZX{l:Addr}{vs:List Value}{κ:SortKind}{lt:Nat→Nat→Bool}{Q:Value→Shared→Prop}(hl:s.heap.IsList l vs.toArray)(C0:vs.length<10000)(LG:vs.Nodup)(L:XX vs.length lt)
  (hk:2≤vs.length→∀s',(∀b o,s.heap.get? b=some o→s'.heap.get? b=some o)→∀Q':SortKind→Shared→Prop,Q' κ s'→wpAny (model prog w) A.in1.in1 (keyKind' vs.toArray) Q' (fun _ _=>False) s')
  (hc:∀i j,i<vs.length→j<vs.length→∀s',(∀b o,s.heap.get? b=some o→s'.heap.get? b=some o)→∀C:Bool→Shared→Prop,C (lt i j) s'→wpAny (model prog w) A.in1.in1 (keyLt' κ (vs.getD i .none) (vs.getD j .none)) C (fun _ _=>False) s')
  (h:∀p h' D c,vL vs.length p→Sd lt p vs.length→(∀b o,s.heap.get? b=some o→h'.get? b=some o)→s.heap.objs.size≤D→h'.get? D=some (seqObj "list" (List.toArray (p.toList.map fun i=>vs.getD i Value.none)) c)→Q (.ref D) {s with heap:=h'}):
  wpAny (model prog w) A (call (.builtin "sorted") [.ref l]) Q E s:=by
 refine Calls.call_function_entry kind_sorted plain_sorted entry_sorted (args_sorted1 _) ?_;unfold Builtin.«sorted»;refine wpAny_bind (m:=checkCount "sorted" 1 1 _) (wpAny_pure (wpAny_bind (collect_list hl (wpAny_bind (wpAny_newList ?_ (by rw[sizeLine_eq];omega))) (by rw[sizeLine_eq];omega))));generalize hh:((s.heap.push (seqObj "list" #[] 0)).update s.heap.objs.size (Obj.mapSeq (·++vs.toArray)))=h1;have hsz:h1.objs.size=s.heap.objs.size+1:=by rw[←hh,Heap.size_update,size_push']
 have keep:∀b o,s.heap.get? b=some o→(h1.push (seqObj "list" vs.toArray 0)).get? b=some o:=fun b o q=>by
  have gT:b<s.heap.objs.size:=Heap.lt_size q;rw[Heap.get?_push_ne _ _ _ (by rw[hsz];exact Nat.ne_of_lt (Nat.lt_succ_of_lt gT)),←hh,Heap.get?_update_ne _ _ _ _ (Nat.ne_of_lt gT),Heap.get?_push_ne _ _ _ (Nat.ne_of_lt gT)];exact q
 have Fy:(h1.push (seqObj "list" vs.toArray 0)).get? h1.objs.size=some (seqObj "list" vs.toArray 0):=Heap.get?_push_size _ rfl;have Gj:∀h',Kp h1.objs.size (h1.push (seqObj "list" vs.toArray 0)) h'→∀b o,s.heap.get? b=some o→h'.get? b=some o:=fun h' k b o q=>k b o (by have:=Heap.lt_size q;rw[hsz];exact Nat.ne_of_lt (Nat.lt_succ_of_lt this)) (keep b o q)
 show wpAny _ _ _ _ _ {s with heap:=h1.push (seqObj "list" vs.toArray 0)};refine wpAny_bind (wpAny_holding (wpAny_call_entry slot_list_sort ⟨_,Fy,rfl⟩ entry_list_sort ?_ (args_list_sort _)));by_cases h2:2≤vs.length
 ·refine AN (s:={s with heap:=h1.push (seqObj "list" vs.toArray 0)}) (lt:=lt) Fy h2 C0 LG L (fun s' k Q' q=>hk h2 s' (Gj _ k) Q' q) (fun i j hi hj s' k C q=>hc i j hi hj s' (Gj _ k) C q) fun p h' c hp hs k e=>?_
  exact⟨_,rfl,wpAny_pure ⟨_,rfl,h p h' _ c hp hs (Gj _ k) (by rw[show({s with heap:=h1}:Shared).heap.objs.size=h1.objs.size from rfl,hsz];exact Nat.le_succ _) e⟩⟩
 ·refine wJ (s:={s with heap:=h1.push (seqObj "list" vs.toArray 0)}) Fy Xs fun h' c k e=>?_
  have hp:vL vs.length (List.toArray (List.range vs.length)):=by unfold vL;simp
  refine⟨_,rfl,wpAny_pure ⟨_,rfl,h _ h' _ c hp (fun i j r6 hj=>Xx) (Gj _ k) (by rw[show({s with heap:=h1}:Shared).heap.objs.size=h1.objs.size from rfl,hsz];exact Nat.le_succ _) ?_⟩⟩;rw[e]
  congr 2
  match vs,h2 with
  |[],_=>rfl
  |[x],_=>rfl
  |x::y::r,h=>simp at h
end
def iL(p q:Int×Int):Bool:=if p.1=q.1 then decide (p.2<q.2)else decide (p.1<q.1)
theorem C2{p q r:Int×Int}(a:iL p q=true)(b:iL q r=true):iL p r=true:=by
 unfold iL at*;split at a<;>split at b<;>split<;>simp_all<;>omega
theorem YD{p q:Int×Int}(a:iL p q=true):iL q p=false:=by
 unfold iL at*;split at a<;>split<;>simp_all<;>omega
theorem Yt{p q:Int×Int}(h:p≠q):iL p q=true∨iL q p=true:=by
 unfold iL;by_cases e:p.1=q.1
 ·have:p.2≠q.2:=fun z=>h (Prod.ext e z)
  simp[e];omega
 ·have e':¬q.1=p.1:=fun z=>e z.symm
  simp[e,e'];omega
section
variable{prog:Program}{w:World}{A:Around}{E:Value→Shared→Prop}{s:Shared}
def p9(h:Heap)(x:Addr)(p:Int×Int):Prop:=∃o t u n,h.get? x=some o∧o.cls= .type "tuple"∧o.data= .seq #[.int p.1 t, .int p.2 u] n
theorem EY{x y:Addr}{p q:Int×Int}{C:Bool→Shared→Prop}(hx:p9 s.heap x p)(hy:p9 s.heap y q)(h:C (iL p q) s):wpAny (model prog w) A (keyLt' (tuples' true) (.ref x) (.ref y)) C E s:=by
 obtain⟨ox,t,u,n,h1,h2,h3⟩:=hx;obtain⟨oy,t',u',n',g1,g2,g3⟩:=hy;refine kat_lt h1 h3 g1 g3 (kat_cons ?_);have e0:SeqAt.EqAt A s (.int p.1 t) (.int q.1 t') (vJ (.int p.1) (.int q.1)):=uj ⟨t,rfl⟩ ⟨t',rfl⟩ rfl rfl;have e1:SeqAt.EqAt A s (.int p.2 u) (.int q.2 u') (vJ (.int p.2) (.int q.2)):=uj ⟨u,rfl⟩ ⟨u',rfl⟩ rfl rfl;refine e0 _ _ _ _ ?_;by_cases a:p.1=q.1
 ·have:vJ (.int p.1) (.int q.1)=true:=by simp[vJ,a]
  rw[this];refine kat_yes (kat_cons (e1 _ _ _ _ ?_));by_cases b:p.2=q.2
  ·have:vJ (.int p.2) (.int q.2)=true:=by simp[vJ,b]
   rw[this];refine kat_yes (kat_nil ?_);have:iL p q=decide (#[Value.int p.1 t, .int p.2 u].size<#[Value.int q.1 t', .int q.2 u'].size):=by simp[iL,a,b]
   rw[this]at h;exact h
  ·have:vJ (.int p.2) (.int q.2)=false:=by simp[vJ,b]
   rw[this];refine kat_no (kat_one _ _ (lt_int ?_));have:iL p q=decide (p.2<q.2):=by simp[iL,a]
   rw[this]at h;exact h
 ·have:vJ (.int p.1) (.int q.1)=false:=by simp[vJ,a]
  rw[this];refine kat_no (oneLt_int ?_);have:iL p q=decide (p.1<q.1):=by simp[iL,a]
  rw[this]at h;exact h
theorem tS{h:Heap}:∀{its:List Value},(∀v∈its,∃x p,v= .ref x∧p9 h x p)→∃fs,KatTups h its fs∧fs.length=its.length∧∀f∈fs,∃i t,f=Value.int i t
 |[],_=>⟨[], .nil,rfl,fun f hf=>by cases hf⟩
 |v::r,hv=>by
  obtain⟨x,p,rfl,o,t,u,n,h1,h2,h3⟩:=hv v (List.mem_cons_self ..);obtain⟨fs,k1,k2,k3⟩:=tS (its:=r) fun v KG=>hv v (List.mem_cons_of_mem _ KG)
  refine⟨.int p.1 t::fs, .cons h1 h2 h3 rfl k1,by simp[k2],fun f hf=>?_⟩;rcases List.mem_cons.mp hf with rfl|hf
  ·exact⟨_,_,rfl⟩
  ·exact k3 f hf
theorem AO{its:List Value}{Q:SortKind→Shared→Prop}(fj:0<its.length)(hv:∀v∈its,∃x p,v= .ref x∧p9 s.heap x p)(h:Q (tuples' true) s):wpAny (model prog w) A (keyKind' its.toArray) Q E s:=by
 obtain⟨fs,k1,k2,k3⟩:=tS hv;refine kat_kind (T:= .type "int") k1 Xs (fun v hv=>?_) (Xy) h;obtain⟨i,t,rfl⟩:=k3 v hv;exact .now
end
theorem wK{l:List Nat}{f:Nat→V}{g:Nat→Value}(h:∀i∈l,RelV (f i) (g i)):Vals (l.map f) (l.map g):=by
 induction l with
 |nil=>exact .nil
 |cons i r ih=>exact .cons (h i (List.mem_cons_self ..)) (ih fun j hj=>h j (List.mem_cons_of_mem _ hj))
end L2
namespace QF
open PySem L2 PySem.Spec PyProof.Rows PySem.W PySem.Calls
inductive C3(K:Frag)(vs:List V)(H:Hp)(Q:VK):Prop
 |mk (l:Addr) (xs:List V) (ps:List Pr) (_:vs=[.ref l]) (_:iF K H l xs) (_:f' H xs ps) (_:ps.Nodup) (_:ps.length<10000) (_:∀D ys qs,H D=none→f' H ys qs→qs.Perm ps→qs.Pairwise (fun p q=>iL p q=true)→Q (.ref D) (upd H D (.lst ys))):C3 K vs H Q
theorem Zg{X:Cx}(K:Frag)(hK:X.K=K:=by rfl):h_ X (.builtin "sorted") (C3 K):=by
 subst hK;intro pins s σ H vs us Q I r h;obtain⟨l,xs,ps,rfl,hq,PS,nd,C0,q⟩:=h;obtain⟨u,rfl,rx⟩:=vals1 r;cases rx;obtain⟨its,r',pl,hz⟩:=I.list hq;have hlen:=r'.length;have pN:=PS.1;have key:∀i,i<its.length→∃t,xs[i]?=some (.ref t)∧its[i]?=some (.ref t)∧H t=some (.tup (ke (ps.getD i (0,0))))∧p9 s.heap t (ps.getD i (0,0)):=fun i hi=>by
  have hp:ps[i]?=some (ps.getD i (0,0)):=by simp[show i<ps.length by omega]
  obtain⟨t,h1,h2⟩:=PS.2 i _ hp;obtain⟨v,h3,h4⟩:=r'.get h1;cases h4;refine⟨t,h1,h3,h2,?_⟩;obtain⟨Wt,r2,⟨o,e1,e2,n,e3⟩,_⟩:=I.tuple (xs:=ke (ps.getD i (0,0))) (.of h2);cases r2 with
  |cons a b=>
   cases b with
   |cons c d=>
    cases d;obtain⟨ta,rfl⟩:=a;obtain⟨tc,rfl⟩:=c;exact⟨o,ta,tc,n,e1,e2,e3⟩
 have Gj:∀{h':Heap},(∀b o,s.heap.get? b=some o→h'.get? b=some o)→∀{x p},p9 s.heap x p→p9 h' x p:=fun k _ _ ⟨o,t,u,n,a,b⟩=>⟨o,t,u,n,k _ _ a,b⟩
 have L:XX its.length fun i j=>iL (ps.getD i (0,0)) (ps.getD j (0,0)):=by
  refine⟨fun i j k _ _ _ a b=>C2 a b,fun i j _ _ a=>YD a,fun i j hi hj fj=>Yt fun e=>fj ?_⟩;have e:ps[i]?=ps[j]?:=by
   rw[List.getElem?_eq_getElem Xs,List.getElem?_eq_getElem Xs];simpa[show i<ps.length by omega,show j<ps.length by omega]using e
  exact(List.getElem?_inj Xs nd).mp e
 have LG:its.Nodup:=by
  refine List.pairwise_iff_getElem.mpr fun i j hi hj r6 e=>?_
  obtain⟨t1,_,a2,a3,_⟩:=key i hi;obtain⟨t2,_,b2,b3,_⟩:=key j hj;rw[List.getElem?_eq_getElem hi]at a2;rw[List.getElem?_eq_getElem hj,←e,a2]at b2;cases b2;rw[a3]at b3;have h1:ps[i]?=some (ps.getD i (0,0)):=by simp[show i<ps.length by omega]
  have h2:ps[j]?=some (ps.getD j (0,0)):=by simp[show j<ps.length by omega]
  have e9:ps.getD i (0,0)=ps.getD j (0,0):=by
   have:=HO.tup.inj (Option.some.inj b3);simp only[ke,List.cons.injEq,V.int.injEq,and_true]at this;exact Prod.ext this.1 this.2
  have:=(List.getElem?_inj Xs nd).mp (h1.trans (by rw[e9];exact h2.symm));omega
 refine ZX (κ:=tuples' true) pl.isList Xs LG L (fun h2 s' k Q' hq=>?_) (fun i j hi hj s' k C hC=>?_) fun p h' D c hp hs k hD e=>?_
 ·refine AO Xs (fun v hv=>?_) hq;obtain⟨i,hi,rfl⟩:=List.mem_iff_getElem.mp hv;obtain⟨t,_,h3,_,h5⟩:=key i hi;exact⟨t,_,by rw[List.getElem?_eq_getElem hi]at h3;exact Option.some.inj h3,Gj k h5⟩
 ·obtain⟨t,_,h3,_,h5⟩:=key i hi;obtain⟨t',_,g3,_,g5⟩:=key j hj;have e1:its.getD i .none= .ref t:=by simp[h3]
  have e2:its.getD j .none= .ref t':=by simp[g3]
  rw[e1,e2];exact EY (Gj k h5) (Gj k g5) hC
 ·have mem:∀i∈p.toList,i<its.length:=fun i hi=>by
   have:=hp.mem_iff.mp hi;simpa using this
  have rel:Vals (p.toList.map fun i=>xs.getD i .cD) (p.toList.map fun i=>its.getD i Value.none):=wK fun i hi=>by
   obtain⟨t,h1,h3,_⟩:=key i (mem i hi);have e1:xs.getD i .cD= .ref t:=by simp[h1]
   have e2:its.getD i .none= .ref t:=by simp[h3]
   rw[e1,e2];rfl
  have hsz:(p.toList.map fun i=>xs.getD i V.cD).length=its.length:=by rw[List.length_map,Array.length_toList,hp.size]
  have IU:(p.toList.map fun i=>ps.getD i (0,0)).length=its.length:=by rw[List.length_map,Array.length_toList,hp.size]
  refine⟨.ref D,_,I.laid (t':=s.toks) k hD (show cF X.prog X.w _ h' _ (.lst _)from⟨by rw[hsz,←hlen];exact hz,_,c,rel,e⟩),rfl,q D _ (p.toList.map fun i=>ps.getD i (0,0)) (I.bL.fresh hD) ⟨by rw[hsz,IU],fun i f hf=>?_⟩ ?_ ?_⟩
  ·rw[List.getElem?_map]at hf⊢;cases ei:p.toList[i]? with
   |none=>rw[ei]at hf;cases hf
   |some j=>
    rw[ei]at hf;have hf:ps.getD j (0,0)=f:=Option.some.inj hf;obtain⟨t,h1,h3,h4,_⟩:=key j (mem j (Xi ei));refine⟨t,?_,by rw[←hf];exact h4⟩;show some (xs.getD j .cD)=_;simp[h1]
  ·have h1:=hp.map (fun i=>ps.getD i (0,0));refine h1.trans ?_;have:(List.range its.length).map (fun i=>ps.getD i (0,0))=ps:=by
    apply List.ext_getElem?;intro i;rw[List.getElem?_map];by_cases hi:i<its.length
    ·rw[List.getElem?_range hi];simp[show i<ps.length by omega]
    ·rw[List.getElem?_eq_none (by simp;omega),List.getElem?_eq_none Xs];rfl
   rw[this]
  ·rw[List.pairwise_iff_getElem];intro i j hi hj r6;have XD:i<its.length:=by rw[IU]at hi;exact hi
   have Na:j<its.length:=by rw[IU]at hj;exact hj
   have:=hs i j r6 Na;have Br:=hp.size;simp only[List.getElem_map];have e1:gd p i=p.toList[i]'(by simp;omega):=by simp[gd,show i<p.size by omega]
   have e2:gd p j=p.toList[j]'(by simp;omega):=by simp[gd,show j<p.size by omega]
   rw[e1,e2]at this;exact this
end QF
namespace L2
open PySem PySem.Spec PyProof.Rows PySem.W PySem.Calls
open AutoSeq1 (wpAny_loadPart')
theorem LH{A:Around}{s:Shared}{i j:Int}{t u:Tok}:SeqAt.EqAt A s (.int i t) (.int j u) (decide (i=j)):=by
 have:=uj (A:=A) (s:=s) (y:= .int i) (x:= .int j) ⟨t,rfl⟩ ⟨u,rfl⟩ rfl rfl;simpa[vJ,Bool.beq_eq_decide_eq]using this
theorem LI{prog:Program}{w:World}{A:Around}{E:Value→Shared→Prop}{s:Shared}{i j:Int}{t u:Tok}{Q:Value→Shared→Prop}(h:Q (.bool (decide (i<j))) s):wpAny (model prog w) A (richCompare .Lt (.int i t) (.int j u)) Q E s:=lt_int h
theorem C4(l b:Addr)(p q:Int×Int)(t u t' u':Tok)(n n2:Nat)(dd F8:Option Addr)(sl XB:Array (Option Value)):
  Meets (Builtin.«tuple.__lt__» ⟨[.ref l, .ref b],[]⟩) (fun A R s=>s.heap.get? l=some {cls:= .type "tuple",dict:=dd,data:= .seq #[.int p.1 t, .int p.2 u] n,slots:=sl}∧s.heap.get? b=some {cls:= .type "tuple",dict:=F8,data:= .seq #[.int q.1 t', .int q.2 u'] n2,slots:=XB}∧
    R (.ok (.ret (.bool (iL p q)))) s):=
 .of_wp fun prog w A R s h=>by
  obtain⟨hp,g,d,tk,os⟩:=s;obtain⟨hl,hb,h⟩:=h;have f2:=AutoSeq1.sub_tuple_tuple
  wp_walk using wpAny_loadPart' hl,wpAny_loadPart' hb
  refine(show wpAny (model prog w) A.in1 (eqBool (.int p.1 t) (.int q.1 t')) _ _ _ from LH _ _ _ _ ?_);by_cases a:p.1=q.1
  ·rw[decide_eq_true a]
   wp_walk
   refine(show wpAny (model prog w) A.in1 (eqBool (.int p.2 u) (.int q.2 u')) _ _ _ from LH _ _ _ _ ?_);by_cases c:p.2=q.2
   ·rw[decide_eq_true c]
    wp_walk
    have e:iL p q=false:=by simp[iL,a,c]
    rw[e]at h;exact⟨_,rfl,h⟩
   ·rw[decide_eq_false c];have e:iL p q=decide (p.2<q.2):=by simp[iL,a]
    rw[e]at h
    wp_walk using LI
    exact⟨_,rfl,h⟩
  ·rw[decide_eq_false a];have e:iL p q=decide (p.1<q.1):=by simp[iL,a]
   rw[e]at h
   wp_walk using LI
   exact⟨_,rfl,h⟩
theorem Zh{prog:Program}{w:World}{A:Around}{E:Value→Shared→Prop}{s:Shared}{x y:Addr}{p q:Int×Int}{Q:Value→Shared→Prop}(hu:A.units<cLine)(hx:p9 s.heap x p)(hy:p9 s.heap y q)(h:Q (.bool (iL p q)) s):wpAny (model prog w) A (compareOp .Lt (.ref x) (.ref y)) Q E s:=by
 obtain⟨⟨c,dd,da,sl⟩,t,u,n,h1,h2,h3⟩:=hx;obtain⟨⟨c',FQ,Wu,N7⟩,t',u',n',g1,g2,g3⟩:=hy;simp only at h2 h3 g2 g3;subst h2 h3 g2 g3;exact richCompare_meets_room (op:= .Lt) ⟨_,h1,rfl⟩ ⟨_,g1,rfl⟩ F.slot_tuple_lt F.entry_tuple_lt (F.args_tuple_lt_2 _ _) (C4 x y p q t u t' u' n n' dd FQ sl N7) ⟨h1,g1,show Value.bool (iL p q)≠Value.notImplemented∧Q (.bool (iL p q)) s from⟨(fun x=>nomatch x),h⟩⟩ hu
abbrev Kw:=Int×(Int×Int)
def X3(a b:Kw):Bool:=if a.1=b.1 then iL a.2 b.2 else decide (a.1<b.1)
theorem IV{p q r:Kw}(a:X3 p q=true)(b:X3 q r=true):X3 p r=true:=by
 unfold X3 at*;by_cases h1:p.1=q.1<;>by_cases h2:q.1=r.1
 ·rw[Xo h1]at a;rw[Xo h2]at b;rw[Xo (h1.trans h2)];exact C2 a b
 ·rw[Xk h2]at b;rw[Xk (by rw[h1];exact h2),h1];exact b
 ·rw[Xk h1]at a;rw[Xk (by rw[←h2];exact h1),←h2];exact a
 ·rw[Xk h1]at a;rw[Xk h2]at b;have a:=of_decide_eq_true a;have b:=of_decide_eq_true b;rw[if_neg Xs];exact decide_eq_true Xs
theorem IW{p q:Kw}(a:X3 p q=true):X3 q p=false:=by
 unfold X3 at*;by_cases h1:p.1=q.1
 ·rw[Xo h1]at a;rw[Xo h1.symm];exact YD a
 ·rw[Xk h1]at a;rw[Xk (fun z=>h1 z.symm)];have a:=of_decide_eq_true a;exact decide_eq_false Xs
theorem EZ{p q:Kw}(h:p≠q):X3 p q=true∨X3 q p=true:=by
 unfold X3;by_cases h1:p.1=q.1
 ·rw[Xo h1,Xo h1.symm];exact Yt fun z=>h (Prod.ext h1 z)
 ·rw[Xk h1,Xk (fun z=>h1 z.symm)];rcases Int.lt_or_lt_of_ne h1 with z|z
  ·exact .inl (decide_eq_true z)
  ·exact .inr (decide_eq_true z)
section
variable{prog:Program}{w:World}{A:Around}{E:Value→Shared→Prop}{s:Shared}
def tT(h:Heap)(x:Addr)(k:Kw):Prop:=∃o t y c,h.get? x=some o∧o.cls= .type "tuple"∧o.data= .seq #[.int k.1 t, .ref y] c∧p9 h y k.2
theorem AQ{x y:Addr}{p q:Int×Int}(hu:A.units+1<cLine)(hx:p9 s.heap x p)(hy:p9 s.heap y q):SeqAt.EqAt A s (.ref x) (.ref y) (decide (p=q)):=by
 obtain⟨o,t,u,n,h1,h2,h3⟩:=hx;obtain⟨o',t',u',n',g1,g2,g3⟩:=hy;by_cases e:x=y
 ·subst e;rw[h1]at g1;cases g1;rw[h3]at g3;injection g3 with g3 _;have g3:=congrArg Array.toList g3;simp at g3;have:p=q:=Prod.ext g3.1.1 g3.2.1;rw[decide_eq_true this];exact SeqAt.EqAt.same _
 ·have:=SeqAt.EqAt.of_refs e (SeqAt.RcAt.tuples (A:=A) (s:=s) (items:=#[.int p.1 t, .int p.2 u]) (items2:=#[.int q.1 t', .int q.2 u']) (e:=fun j=>if j=0 then decide (p.1=q.1)else decide (p.2=q.2)) ⟨o,h1,h2,n,h3⟩ ⟨o',g1,g2,n',g3⟩ Xs fun j h1 h2=>by
   have:j=0∨j=1:=by simp at h1;omega
   rcases this with rfl|rfl
   ·exact LH
   ·exact LH)
  have e2:((List.range (min #[Value.int p.1 t, .int p.2 u].size #[Value.int q.1 t', .int q.2 u'].size)).all (fun j=>if j=0 then decide (p.1=q.1)else decide (p.2=q.2))&&#[Value.int p.1 t, .int p.2 u].size==#[Value.int q.1 t', .int q.2 u'].size)=decide (p=q):=by
   simp[List.range_succ];by_cases a:p.1=q.1<;>by_cases b:p.2=q.2<;>simp[Prod.ext_iff,a,b]
  rw[e2]at this;exact this
theorem IX{x y:Addr}{p q:Kw}{C:Bool→Shared→Prop}(hu:A.units+1<cLine)(hx:tT s.heap x p)(hy:tT s.heap y q)(h:C (X3 p q) s):wpAny (model prog w) A (keyLt' (tuples' true) (.ref x) (.ref y)) C E s:=by
 obtain⟨ox,t,z,n,h1,h2,h3,h4⟩:=hx;obtain⟨oy,t',z',n',g1,g2,g3,g4⟩:=hy;refine kat_lt h1 h3 g1 g3 (kat_cons (LH _ _ _ _ ?_));by_cases a:p.1=q.1
 ·rw[decide_eq_true a];refine kat_yes (kat_cons (AQ hu h4 g4 _ _ _ _ ?_));have e:X3 p q=iL p.2 q.2:=Xo a;by_cases b:p.2=q.2
  ·rw[decide_eq_true b];refine kat_yes (kat_nil ?_);have:X3 p q=decide (#[Value.int p.1 t, .ref z].size<#[Value.int q.1 t', .ref z'].size):=by rw[e,b];simp[iL]
   rw[this]at h;exact h
  ·rw[decide_eq_false b];rw[e]at h;exact kat_no (kat_one _ _ (Zh Xs h4 g4 h))
 ·rw[decide_eq_false a];have e:X3 p q=decide (p.1<q.1):=Xk a;rw[e]at h;exact kat_no (oneLt_int h)
end
theorem IY{X:Cx}{cm:Bool}{k:Nat}{f:Addr}{fd:FuncData}{ps:List Str}{sp:Sp}{A':Around}{pins:List (Addr×Obj)}{σ:St}{H:Hp}{s:Shared}{Q:VK}{us:List Value}{vs:List V}{E:Value→Shared→Prop}
  (F:aY X.prog X.w X.K X.mg X.base (c8 X.prog X.w) cm k f fd ps sp) (hr:d7 cm k A') (hf:A'.frames=X.A.frames) (hb:Binds X.K fd ps []) (I:Inv X pins σ H s) (r:Vals vs us) (h:sp vs H Q E0):
  wpAny (model X.prog X.w) A' (call (.ref f) us) (EP X pins σ Q) E s:=by
 have hl:(us++[]).length=ps.length:=by rw[List.append_nil,←r.length];exact F.len _ _ _ _ h
 have JO:=hb s us I.oC hl;rw[List.append_nil]at JO;refine wpAny_call (codeAny_mono (F.run A' X.stack s H ⟨us,[]⟩ us vs Q E0 hr {I.Ht with frames:=by rw[hf];exact I.ok.frames} JO r h) fun r s' hq=>?_);cases r with
 |error e=>obtain⟨_,_,_,_,_,_,_,_,_,_,_,_,_,h⟩:=hq;exact h.elim
 |ok fl=>
  cases fl with
  |ret u=>exact I.after hq
  |next=>exact False.elim hq
  |brk=>exact False.elim hq
  |cont=>exact False.elim hq
end L2
namespace QF
open PySem L2 PySem.Spec PyProof.Rows PySem.W PySem.Calls
def KQ(H1:Hp)(w:Kw):VK:=fun y H2=>au H1 H2∧∃k t,y= .ref k∧H2 k=some (.tup [.int w.1, .ref t])∧H2 t=some (.tup [.int w.2.1, .int w.2.2])
def kl(ws:List Kw)(i j:Nat):Bool:=X3 (ws.getD i (0,(0,0))) (ws.getD j (0,(0,0)))
def Ks(H:Hp)(ws:List Kw)(as:List Addr):Prop:=∀j k,as[j]?=some k→∃t,H k=some (.tup [.int (ws.getD j (0,(0,0))).1, .ref t])∧H t=some (.tup [.int (ws.getD j (0,(0,0))).2.1, .int (ws.getD j (0,(0,0))).2.2])
theorem Ks.key{X:Cx}{pins:List (Addr×Obj)}{σ:L2.St}{H:Hp}{s:Shared}{ws:List Kw}{as:List Addr}{j:Nat}{k:Addr}(I:Inv X pins σ H s)(h:Ks H ws as)(e:as[j]?=some k):tT s.heap k (ws.getD j (0,(0,0))):=by
 obtain⟨t,h1,h2⟩:=h j k e;obtain⟨its,r,⟨o,e1,e2,n,e3⟩,_⟩:=I.tuple (xs:=[.int (ws.getD j (0,(0,0))).1, .ref t]) (.of h1);obtain⟨its',r',⟨o',g1,g2,n',g3⟩,_⟩:=I.tuple (xs:=[.int (ws.getD j (0,(0,0))).2.1, .int (ws.getD j (0,(0,0))).2.2]) (.of h2);cases r with
 |cons a b=>cases b with
  |cons c d=>
   cases d;obtain⟨ta,rfl⟩:=a;cases c;cases r' with
   |cons a' b'=>cases b' with
    |cons c' d'=>
     cases d';obtain⟨UD,rfl⟩:=a';obtain⟨UE,rfl⟩:=c';exact⟨o,ta,t,n,e1,e2,e3,o',UD,UE,n',g1,g2,g3⟩
theorem wL{h:Heap}:∀{its:List Value},(∀v∈its,∃x p,v= .ref x∧tT h x p)→∃fs,KatTups h its fs∧fs.length=its.length∧∀f∈fs,∃i t,f=Value.int i t
 |[],_=>⟨[], .nil,rfl,fun f hf=>by cases hf⟩
 |v::r,hv=>by
  obtain⟨x,p,rfl,o,t,u,n,h1,h2,h3,_⟩:=hv v (List.mem_cons_self ..);obtain⟨fs,k1,k2,k3⟩:=wL (its:=r) fun v KG=>hv v (List.mem_cons_of_mem _ KG)
  refine⟨.int p.1 t::fs, .cons h1 h2 h3 rfl k1,by simp[k2],fun f hf=>?_⟩;rcases List.mem_cons.mp hf with rfl|hf
  ·exact⟨_,_,rfl⟩
  ·exact k3 f hf
theorem C5{prog:Program}{w:World}{A:Around}{E:Value→Shared→Prop}{s:Shared}{its:List Value}{Q:SortKind→Shared→Prop}(fj:0<its.length)(hv:∀v∈its,∃x p,v= .ref x∧tT s.heap x p)(h:Q (tuples' true) s):wpAny (model prog w) A (keyKind' its.toArray) Q E s:=by
 obtain⟨fs,k1,k2,k3⟩:=wL hv;refine kat_kind (T:= .type "int") k1 Xs (fun v hv=>?_) (Xy) h;obtain⟨i,t,rfl⟩:=k3 v hv;exact .now
section
variable{X:Cx}{cm:Bool}{k:Nat}{f:Addr}{fd:FuncData}{ps:List Str}{sp:Sp}{A':Around}{pins:List (Addr×Obj)}{σ:L2.St}{H:Hp}{s:Shared}{E:Value→Shared→Prop}{a kS:Addr}{vs:List Value}{xs:List V}{ws:List Kw}{e1:Nat}{P:PySem.Fin→Shared→Prop}
theorem C_(hu:A'.units+1<cLine)(I:Inv X pins σ H s){kA:Array Value}{e:Nat}{as:List Addr}(hk:s.heap.get? kS=some (seqObj "list" kA e))(ha:s.heap.get? a=some (seqObj "list" #[] e1))(fk:gK X pins H kS)(fa:gK X pins H a)(fj:kS≠a)
  (ek:kA.toList=as.map Value.ref) (el:as.length=vs.length) (K:Ks H ws as) (r:Vals xs vs) (hlen:ws.length=vs.length) (nd:ws.Nodup) (C0:vs.length<10000)
  (h:∀p s',vL vs.length p→Sd (kl ws) p vs.length→Inv X pins σ (upd H a (.lst (p.toList.map fun i=>xs.getD i .cD))) s'→P (.done (.ret .none)) s'):
  wpAny (model X.prog X.w) A' (ksk_end a false vs.toArray e1 (.ref kS) kA) P E s:=by
 have UG:kA=(as.map Value.ref).toArray:=by apply Array.toList_inj.mp;simpa using ek
 subst UG;have hl:(as.map Value.ref).length=vs.length:=by rw[List.length_map];exact el
 have key:∀i,i<vs.length→∃x,(as.map Value.ref).getD i Value.none= .ref x∧tT s.heap x (ws.getD i (0,(0,0))):=fun i hi=>by
  have hx:as[i]?=some as[i]:=List.getElem?_eq_getElem Xv;exact⟨as[i],by simp[show i<as.length by lia],K.key I hx⟩
 have L:XX vs.length (kl ws):=by
  refine⟨fun i j k _ _ _ a b=>IV a b,fun i j _ _ a=>IW a,fun i j hi hj fj=>EZ fun e=>fj ?_⟩;have e:ws[i]?=ws[j]?:=by
   rw[List.getElem?_eq_getElem Xv,List.getElem?_eq_getElem Xv];simpa[show i<ws.length by lia,show j<ws.length by lia]using e
  exact(List.getElem?_inj Xv nd).mp e
 have tail:∀(st:SortSt)(p:Array Nat),vL vs.length p→Sd (kl ws) p vs.length→(arrOf st).map (·.2)=List.toArray (p.toList.map fun i=>vs.getD i Value.none)→failedOf st=none→wpAny (model X.prog X.w) A' (ksk_tail a false e1 (.ref kS) st) P E s:=fun st p hp hs hm hf=>by
  have hsz:(List.toArray (p.toList.map fun i=>vs.getD i Value.none)).size=vs.length:=by rw[List.size_toArray,List.length_map,Array.length_toList,hp.size]
  have s1:=Heap.SameBut.update s.heap kS (Obj.mapSeq fun _=>(#[]:Array Value));have X6:(s.heap.update kS (Obj.mapSeq fun _=>(#[]:Array Value))).get? a=some (seqObj "list" #[] e1):=(s1.2 a (Ne.symm fj)).trans ha;have s2:=Heap.SameBut.update (s.heap.update kS (Obj.mapSeq fun _=>(#[]:Array Value))) a (Obj.mapSeq fun _=>List.toArray (p.toList.map fun i=>vs.getD i Value.none));obtain⟨c2,ur⟩:∃c2,((s.heap.update kS (Obj.mapSeq fun _=>(#[]:Array Value))).update a (Obj.mapSeq fun _=>List.toArray (p.toList.map fun i=>vs.getD i Value.none))).get? a=some (seqObj "list" (List.toArray (p.toList.map fun i=>vs.getD i Value.none)) c2):=⟨_,get?_update_seq X6 fun _=>List.toArray (p.toList.map fun i=>vs.getD i Value.none)⟩
  unfold ksk_tail
  try dsimp only
  simp only[Bool.false_eq_true,if_false];rw[hm];refine wpAny_bind (listUpdate_at hk rfl (wpAny_bind (wpAny_letGo ?_)) (by rw[List.size_toArray,hl,sizeLine_eq];lia) (Nat.zero_le _));refine wpAny_bind (seqEpoch_at (s:={s with heap:=s.heap.update kS (Obj.mapSeq fun _=>(#[]:Array Value))}) X6 rfl (wpAny_bind (listUpdate_at (s:={s with heap:=s.heap.update kS (Obj.mapSeq fun _=>(#[]:Array Value))}) X6 rfl ?_ (Nat.zero_le _) (Nat.le_trans (Nat.le_of_eq hsz) (by rw[sizeLine_eq];lia)))));rw[hf];simp only[bne_self_eq_false,Bool.false_eq_true,if_false];have hr:=r.length;have mem:∀i∈p.toList,i<vs.length:=fun i hi=>by
   have:=hp.mem_iff.mp hi;simpa using this
  have rel:Vals (p.toList.map fun i=>xs.getD i .cD) (p.toList.map fun i=>vs.getD i Value.none):=wK fun i hi=>by
   have hi:=mem i hi;obtain⟨v,h1,h2⟩:=r.get (i:=i) (x:=xs[i]) (by simp[show i<xs.length by lia]);have e1:xs.getD i .cD=xs[i]:=by simp[show i<xs.length by lia]
   have e2:vs.getD i .none=v:=by simp[h1]
   rw[e1,e2];exact h2
  refine wpAny_pure (h p _ hp hs (I.Yy (t':=s.toks) (fp:=[kS,a]) (fun b hb=>?_) fa (fun b o hb e=>?_) ⟨by rw[List.length_map,Array.length_toList,hp.size,sizeLine_eq];lia,_,c2,rel,ur⟩))
  ·simp only[List.mem_cons,List.mem_singleton,List.not_mem_nil,or_false]at hb;rcases hb with rfl|rfl
   ·exact fk
   ·exact fa
  ·simp only[List.mem_cons,List.not_mem_nil,or_false,not_or]at hb;exact(s2.2 b hb.2).trans ((s1.2 b hb.1).trans e)
 unfold ksk_end
 try dsimp only
 simp only[Bool.false_eq_true,if_false];by_cases h2:2≤vs.length
 ·have sg:¬vs.toArray.size<2:=by rw[List.size_toArray];lia
  rw[Xk sg,Xk sg];refine wpAny_bind (wpAny_mono (C5 (Q:=fun Nh s'=>Nh=tuples' true∧s'=s) (E:=E) (its:=as.map Value.ref) (by lia) (fun v hv=>?_) ⟨rfl,rfl⟩) ?_ fun _ _ x=>x)
  ·obtain⟨i,hi,rfl⟩:=List.mem_iff_getElem.mp hv;obtain⟨x,h3,h5⟩:=key i Xv;exact⟨x,_,by rw[←h3];simp[show i<as.length by simpa using hi],h5⟩
  rintro Nh s0 ⟨UH,UI⟩;rw[UH,UI];have LJ:(as.map Value.ref).Nodup:=by
   refine List.pairwise_iff_getElem.mpr fun i j hi hj r6 e=>?_
   have XD:i<as.length:=by simpa using hi
   have Na:j<as.length:=by simpa using hj
   have e:as[i]=as[j]:=by simpa using e
   obtain⟨t1,a1,a2⟩:=K i as[i] (List.getElem?_eq_getElem XD);obtain⟨t2,b1,b2⟩:=K j as[j] (List.getElem?_eq_getElem Na);rw[←e,a1]at b1;have h1:=HO.tup.inj (Option.some.inj b1);simp only[List.cons.injEq,V.int.injEq,V.ref.injEq,and_true]at h1;rw[←h1.2,a2]at b2;have h2:=HO.tup.inj (Option.some.inj b2);simp only[List.cons.injEq,V.int.injEq,and_true]at h2;have e9:ws.getD i (0,(0,0))=ws.getD j (0,(0,0)):=Prod.ext h1.1 (Prod.ext h2.1 h2.2);have g1:ws[i]?=some (ws.getD i (0,(0,0))):=by simp[show i<ws.length by lia]
   have g2:ws[j]?=some (ws.getD j (0,(0,0))):=by simp[show j<ws.length by lia]
   have:=(List.getElem?_inj Xv nd).mp (g1.trans (by rw[e9];exact g2.symm))
   lia
  refine wpAny_bind (wpAny_mono (YX (lt:=kl ws) hl Xv L LJ fun i j hi hj C hC=>?_) ?_ fun _ _ e=>e)
  ·obtain⟨x,h3,h5⟩:=key i hi;obtain⟨y,g3,g5⟩:=key j hj;rw[h3,g3];exact IX hu h5 g5 hC
  rintro⟨⟨⟩,aP⟩ s' ⟨p,PM,hp,hs,PK,hf⟩;rw[PM];exact tail aP p hp hs (kat_snds hl PK) hf
 ·have sg:vs.toArray.size<2:=by rw[List.size_toArray];lia
  rw[Xo sg,Xo sg];refine wpAny_bind (wpAny_pure (wpAny_bind (wpAny_pure ?_)));have hp:vL vs.length (List.toArray (List.range vs.length)):=by unfold vL;simp
  refine tail _ _ hp (fun i j r6 hj=>by lia) ?_ rfl;show((as.map Value.ref).toArray.zip vs.toArray).map (·.2)=_;apply Array.toList_inj.mp;rw[Array.toList_map,Array.toList_zip];refine(List.map_snd_zip (by simp;lia)).trans ?_
  match vs,h2 with
  |[],_=>rfl
  |[x],_=>rfl
  |x::y::r,h=>simp at h
theorem AR(F:aY X.prog X.w X.K X.mg X.base (c8 X.prog X.w) cm k f fd ps sp)(hr:d7 cm k A')(hf:A'.frames=X.A.frames)(hb:Binds X.K fd ps [])(hu:A'.units+1<cLine)(I:Inv X pins σ H s)(hk:s.heap.get? kS=some (seqObj "list" #[] 0))(ha:s.heap.get? a=some (seqObj "list" #[] e1))
  (fk:gK X pins H kS) (fa:gK X pins H a) (fj:kS≠a) (r:Vals xs vs) (hlen:ws.length=vs.length) (nd:ws.Nodup) (C0:vs.length<10000)
  (mW:∀i v H1,xs[i]?=some v→au H H1→sp [v] H1 (KQ H1 (ws.getD i (0,(0,0)))) E0)
  (h:∀p H' s',vL vs.length p→Sd (kl ws) p vs.length→au H H'→H' a=none→Inv X pins σ (upd H' a (.lst (p.toList.map fun i=>xs.getD i .cD))) s'→P (.done (.ret .none)) s'):
  wpAny (model X.prog X.w) A' (ksk_rest a (.ref f) false vs.toArray e1 (.ref kS)) P E s:=by
 have JT:=r.length;unfold ksk_rest;refine wpAny_bind (wpAny_rule ?_);first
  |rw[List.forIn_toArray]
  |(rw[←Array.forIn_toList];simp only[List.toList_toArray])
 refine wpAny_bind (ksk_fold (fun i s'=>∃(H':Hp)(as:List Addr)(e:Nat),Inv X pins σ H' s'∧au H H'∧s'.heap.get? kS=some (seqObj "list" (as.map Value.ref).toArray e)∧s'.heap.get? a=some (seqObj "list" #[] e1)∧gK X pins H' kS∧gK X pins H' a∧as.length=i∧Ks H' ws as) vs 0 s
  ⟨H,[],0,I,fun _ _ z=>z,hk,ha,fk,fa,rfl,fun j k e=>by simp at e⟩ ?_ ?_)
 ·rintro j x s' hx ⟨H',as,e,I',sm,Ct,LK,Ni,LL,el,K⟩;simp only[Nat.zero_add]at el⊢;have hj:j<vs.length:=(Xd hx).1;obtain⟨u,RD,Nj⟩:=r.get (i:=j) (x:=xs[j]) (by simp[show j<xs.length by omega]);rw[hx]at RD;cases RD;have Ip:=I'.pinned (fp:=[kS,a]) (fun b hb=>by
   simp only[List.mem_cons,List.not_mem_nil,or_false]at hb;rcases hb with rfl|rfl
   ·exact Ni
   ·exact LL) (fun b hb=>by
   simp only[List.mem_cons,List.not_mem_nil,or_false]at hb;rcases hb with rfl|rfl
   ·exact⟨_,Ct,fun v z=>nomatch z⟩
   ·exact⟨_,LK,fun v z=>nomatch z⟩)
  refine wpAny_bind (wpAny_attempt (wpAny_mono (IY F hr hf hb Ip (.cons Nj .nil) (mW j xs[j] H' (by simp[show j<xs.length by omega]) sm)) (fun v uc he=>?_) fun _ _ z=>z));obtain⟨y,H2,I2,ry,PN,kk,t,rfl,k1,k2⟩:=he;cases ry;dsimp only;have pk:=I2.pin (kS,_) (List.mem_append_right _ (List.mem_append_right _ (f9 Xr Ct)));have pa:=I2.pin (a,_) (List.mem_append_right _ (List.mem_append_right _ (f9 Xr LK)));have I3:=I2.kh;have s1:=Heap.SameBut.update uc.heap kS (Obj.mapSeq (·.push (.ref kk)));obtain⟨c2,ur⟩:∃c2,(uc.heap.update kS (Obj.mapSeq (·.push (.ref kk)))).get? kS=some (seqObj "list" ((as.map Value.ref).toArray.push (.ref kk)) c2):=⟨_,get?_update_seq pk.1 (·.push (.ref kk))⟩
  refine wpAny_bind (listUpdate_at pk.1 rfl ?_ (by simp;rw[sizeLine_eq];omega) (by simp;rw[sizeLine_eq];omega));have JU:gK X pins H2 kS:=⟨pk.2.1,Ni.2⟩
  have UJ:gK X pins H2 a:=⟨pa.2.1,LL.2⟩
  refine wpAny_pure ⟨rfl,H2,as++[kk],c2,I3.turned (t':=uc.toks) (it:=kS) (fun b o hb e=>(s1.2 b hb).trans e) JU.1 JU.2.1 JU.2.2.2.1 JU.2.2.2.2.1 JU.2.2.2.2.2,fun b o z=>PN b o (sm b o z),?_,(s1.2 a (Ne.symm fj)).trans pa.1,JU,UJ,by simp[el],fun i k ei=>?_⟩
  ·show(uc.heap.update kS (Obj.mapSeq (·.push (.ref kk)))).get? kS=_;rw[ur]
   congr 2
   simp
  ·by_cases hi:i<as.length
   ·rw[List.getElem?_append_left hi]at ei;obtain⟨t',g1,g2⟩:=K i k ei;exact⟨t',PN _ _ g1,PN _ _ g2⟩
   ·rw[List.getElem?_append_right Xs]at ei;have UK:i-as.length=0:=by
     have:=(Xd ei).1;simp at this;omega
    rw[UK]at ei;have:kk=k:=by simpa using ei
    subst this;have:i=j:=Xx;subst this;exact⟨t,k1,k2⟩
 ·rintro s' ⟨H',as,e,I',sm,Ct,LK,Ni,LL,el,K⟩;refine wpAny_bind (listItems_at Ct rfl ?_);exact C_ hu I' Ct LK Ni LL fj Xr (Xx) K r hlen nd C0 fun p s2 hp hs I2=>h p H' s2 hp hs sm LL.1 I2
theorem AS{n:Nat}(F:aY X.prog X.w X.K X.mg X.base (c8 X.prog X.w) cm k f fd ps sp)(hr:d7 cm k A')(hf:A'.frames=X.A.frames)(hb:Binds X.K fd ps [])(hu:A'.units+1<cLine)(I:Inv X pins σ H s)(ho:s.heap.get? a=some (seqObj "list" vs.toArray n))
  (fa:gK X pins H a) (r:Vals xs vs) (hlen:ws.length=vs.length) (nd:ws.Nodup) (C0:vs.length<10000)
  (mW:∀i v H1,xs[i]?=some v→au H H1→sp [v] H1 (KQ H1 (ws.getD i (0,(0,0)))) E0)
  (h:∀p H' s',vL vs.length p→Sd (kl ws) p vs.length→au H H'→H' a=none→Inv X pins σ (upd H' a (.lst (p.toList.map fun i=>xs.getD i .cD))) s'→P (.done (.ret .none)) s'):
  wpAny (model X.prog X.w) A' (ksk_tree a (.ref f) false) P E s:=by
 have s1:=Heap.SameBut.update s.heap a (Obj.mapSeq fun _=>(#[]:Array Value));obtain⟨e1,Gi⟩:∃e1,(s.heap.update a (Obj.mapSeq fun _=>(#[]:Array Value))).get? a=some (seqObj "list" #[] e1):=⟨_,get?_update_seq ho fun _=>#[]⟩
 have I1:Inv X pins σ H {s with heap:=s.heap.update a (Obj.mapSeq fun _=>(#[]:Array Value))}:=I.turned (t':=s.toks) (it:=a) (fun b o hb e=>(s1.2 b hb).trans e) fa.1 fa.2.1 fa.2.2.2.1 fa.2.2.2.2.1 fa.2.2.2.2.2;unfold ksk_tree;refine wpAny_bind (listItems_at ho rfl (wpAny_bind (listUpdate_at ho rfl ?_ (by rw[List.size_toArray,sizeLine_eq];omega) (Nat.zero_le _))));refine wpAny_bind (seqEpoch_at Gi rfl (wpAny_bind (wpAny_newTuple (wpAny_bind (wpAny_newList (wpAny_holding ?_) (Nat.zero_le _))) (by show vs.length≤_;rw[sizeLine_eq];omega))));have I2:Inv X pins σ H {s with heap:=(s.heap.update a (Obj.mapSeq fun _=>(#[]:Array Value))).push (seqObj "tuple" vs.toArray 0)}:=I1.kept (t':=s.toks) fun b o e=>Xl e
 have I3:Inv X pins σ H {s with heap:=((s.heap.update a (Obj.mapSeq fun _=>(#[]:Array Value))).push (seqObj "tuple" vs.toArray 0)).push (seqObj "list" #[] 0)}:=I2.kept (t':=s.toks) fun b o e=>Xl e
 have fk:=I2.sf (Nat.le_refl _) (I2.bL.fresh (Nat.le_refl _));have AE:=Heap.get?_push_of_some (seqObj "tuple" vs.toArray 0) Gi;exact AR F hr hf hb hu I3 (Heap.get?_push_size _ rfl) (Xl AE) fk fa (Nat.ne_of_gt (Heap.lt_size AE)) r hlen nd C0 mW h
theorem Zm{l:Addr}{Q:VK}(F:aY X.prog X.w X.K X.mg X.base (c8 X.prog X.w) cm k f fd ps sp)(hr:d7 cm (k+1) X.A)(hb:Binds X.K fd ps [])(I:Inv X pins σ H s)(hq:iF X.K H l xs)(hlen:ws.length=xs.length)(nd:ws.Nodup)(C0:xs.length<10000)
  (mW:∀i v H1,xs[i]?=some v→au H H1→sp [v] H1 (KQ H1 (ws.getD i (0,(0,0)))) E0)
  (h:∀p H' D,vL xs.length p→Sd (kl ws) p xs.length→au H H'→H D=none→H' D=none→Q (.ref D) (upd H' D (.lst (p.toList.map fun i=>xs.getD i .cD)))):
  wpAny (model X.prog X.w) X.A (call (.builtin "sorted") [.ref l] [(Str.ofString "key", .ref f)]) (EP X pins σ Q) E s:=by
 obtain⟨vs,r,pl,hz⟩:=I.list hq;have JT:=r.length;refine call_function_entry_kw kind_sorted plain_sorted entry_sorted (ksk_s1 _ _) ?_;unfold Builtin.«sorted»;refine wpAny_bind (m:=checkCount "sorted" 1 1 _) (wpAny_pure (wpAny_bind (collect_list pl.isList (wpAny_bind (wpAny_newList ?_ (by rw[sizeLine_eq];omega))) (by rw[sizeLine_eq];omega))));generalize hh:((s.heap.push (seqObj "list" #[] 0)).update s.heap.objs.size (Obj.mapSeq (·++vs.toArray)))=h1;have hsz:h1.objs.size=s.heap.objs.size+1:=by rw[←hh,Heap.size_update,size_push']
 have keep:∀b o,s.heap.get? b=some o→(h1.push (seqObj "list" vs.toArray 0)).get? b=some o:=fun b o q=>by
  have gT:b<s.heap.objs.size:=Heap.lt_size q;rw[Heap.get?_push_ne _ _ _ (by rw[hsz];exact Nat.ne_of_lt (Nat.lt_succ_of_lt gT)),←hh,Heap.get?_update_ne _ _ _ _ (Nat.ne_of_lt gT),Heap.get?_push_ne _ _ _ (Nat.ne_of_lt gT)];exact q
 have Fy:(h1.push (seqObj "list" vs.toArray 0)).get? h1.objs.size=some (seqObj "list" vs.toArray 0):=Heap.get?_push_size _ rfl;have hD:s.heap.objs.size≤h1.objs.size:=by rw[hsz];exact Nat.le_succ _
 have RE:H h1.objs.size=none:=I.bL.fresh hD;have I1:Inv X pins σ H {s with heap:=h1.push (seqObj "list" vs.toArray 0)}:=I.kept (t':=s.toks) keep;show wpAny _ _ _ _ _ {s with heap:=h1.push (seqObj "list" vs.toArray 0)};refine wpAny_bind (wpAny_holding (wpAny_call_entry_kw slot_list_sort ⟨_,Fy,rfl⟩ entry_list_sort ?_ (ksk_l1 _ _)));show wpAny (model X.prog X.w) X.A.in1.in1 (Builtin.«list.sort» ⟨[.ref h1.objs.size],[(Str.ofString "key", .ref f)]⟩) _ _ _;rw[ksk_t1];have un:=hr.un;refine AS F ⟨hr.hd,by have:=hr.dp;show X.A.depth+3*k+5<_;omega,by show X.A.units+1+1+16*k+200<_;omega⟩ rfl hb (by show X.A.units+1+1+1<_;omega) I1 Fy (I.sf hD RE) r Xs nd Xs mW fun p H' s' hp hs sm hn I'=>⟨_,rfl,wpAny_pure ⟨_,rfl, .ref h1.objs.size,_,I',rfl,?_⟩⟩
 rw[←JT]at hp hs;exact h p H' _ hp hs sm RE hn
end
inductive Dd(K:Frag)(sp:Sp)(x:V)(H:Hp)(Q:VK):Prop
 |mk (l:Addr) (xs:List V) (ws:List Kw) (_:x= .ref l) (_:iF K H l xs) (_:ws.length=xs.length) (_:ws.Nodup) (_:xs.length<10000) (_:∀i v H1,xs[i]?=some v→au H H1→sp [v] H1 (KQ H1 (ws.getD i (0,(0,0)))) E0)
  (_:∀p H' D,vL xs.length p→Sd (kl ws) p xs.length→au H H'→H D=none→H' D=none→Q (.ref D) (upd H' D (.lst (p.toList.map fun i=>xs.getD i .cD)))):Dd K sp x H Q
def IZ(K:Frag)(sp:Sp)(ta:TE):TE:=fun σ H Q=>ta σ H fun x H1=>Dd K sp x H1 Q
theorem De{X:Cx}(K:Frag){cm:Bool}{k:Nat}{x:Str}{ps:List Str}{sp:Sp}{e:Expr}{ta:TE}{p pos kp fp:Pos}(D:bZ X.prog X.w X.K X.mg X.base cm k x ps sp)(hr:d7 cm (k+1) X.A)(he:PE X e ta)(hg:Gl X "sorted")(hm:X.mg "sorted"=none)
  (UL:Gl X x:=by rfl) (ub:(x==("__debug__":Str))=false:=by decide) (hs:starEach [e] X.env=[(false,eval e X.env)]:=by rfl) (hK:X.K=K:=by rfl):
  PE X (.Call (.Name "sorted" p) [e] [⟨some "key", .Name x fp,kp⟩] pos) (IZ K sp ta):=by
 subst hK;obtain⟨f,fd,ok,UM,hk,hb⟩:=D;intro pins s σ H Q I h;refine wpAny_Call_Name_kw (kg I hg hm (PyProof.Rows.Boot.«sorted») ?_ (Xy) (Xy));rw[hs];refine callWith_builtin_kwB (first:=[]) rfl rfl (evalArgs_kwB rfl ?_);refine Calls.spliced_cons ?_;show wpAny _ _ (eval e X.env) _ _ s;refine cj (he pins s σ H _ I h) fun v s1 ⟨y,H1,I1,r1,q1⟩=>Calls.spliced_nil ?_
 obtain⟨l,xs,ws,rfl,hq,hlen,nd,C0,mW,q⟩:=q1;cases r1;refine kws_cons ?_;show wpAny _ _ (eval (.Name x fp) X.env) _ _ s1;refine cj (YZ (v:= .ref f) UL UM rfl ub pins s1 σ H1 (fun y H2=>y= .ref f∧H2=H1) I1 ⟨rfl,rfl⟩) fun u s2 ⟨y,H2,I2,r2,e1,e2⟩=>?_
 subst e1 e2;cases r2;refine kws_nil ?_;exact Zm ok hr hb I2 hq hlen nd C0 mW q
end QF
namespace L2
open PySem PySem.Spec PyProof.Rows PySem.W PySem.Calls
def JV(hi:Int)(n:Nat):It:=⟨fun i _=>i<n,fun i H x H'=>H'=H∧x= .int (hi-i),fun i _=>n≤i⟩
theorem AU{P:Program}{w:World}{K:PySem.W.Frag}{tg:Expr}(it:Addr)(hi:Int)(n:Nat):Turn P w K tg (JV hi n) [it] it (fun i h=>IsRangeIter h it (hi+(i:Nat)*(-1)) ((n:Int)-(i:Nat)) (-1)) where
 mem:=XA
 obj:=fun i h st b hb=>by
  have e:b=it:=by simpa using hb
  subst e;exact⟨_,st,fun v z=>by
   have z':Data.fields _=Data.cell v:=z;cases z'⟩
 keep:=fun i h h' st k=>k it (XA) _ st
 item:=by
  intro X hP hw hK hc i pins s σ H E I hf st hg;subst hP hw hK;obtain⟨f0,f1,f2,f3,f4,f5⟩:=hf it (XA);have W:=Walks.range (prog:=X.prog) (w:=X.w) (I.ok.hd hc) it hi (-1) n;refine W.item i s _ _ hg st fun v h' tk hv aP kk=>?_
  obtain⟨t,rfl⟩:=hv;have I1:Inv X pins σ H {s with heap:=h',toks:=tk}:=I.turned (fun b o hb e=>kk b o (by simpa using hb) e) f0 f1 f3 f4 f5;refine⟨_,rfl,vV (s:={s with heap:=h',toks:=tk}) (n:="range_iterator") aP rfl rfl (Xy) ⟨.int (hi-i),H,I1,⟨t,?_⟩,⟨rfl,rfl⟩,aP,fun b hb=>(hf b hb).1⟩⟩
  congr 1
  omega
 done:=by
  intro X hP hw hK hc i pins s σ H E I hf st hg;subst hP hw hK;obtain⟨f0,f1,f2,f3,f4,f5⟩:=hf it (XA);exact wpAny_pyNext_range_end (I.ok.hd hc) st (by have:n≤i:=hg;omega) fun h' eb=>⟨rfl,I.turned (t':=s.toks) (fun b o hb e=>eb b o hb e) f0 f1 f3 f4 f5⟩
 self:=fun _ _ _ _ _ st h=>wpAny_pyIter_rangeiter st h
theorem rangeSize_down(a b:Int):Builtin.Range.rangeSize a b (-1)=if a>b then a-b else 0:=by
 unfold Builtin.Range.rangeSize;rw[if_neg (Xy)];split<;>simp
theorem small_down{a b:Int}(ha:-(2^62)≤a)(LK:a<2^62)(hb:-(2^62)≤b)(JO:b<2^62):Builtin.Range.small a b (-1)=true:=by
 unfold Builtin.Range.small;rw[rangeSize_down];simp only[Builtin.Range.rangeFitsLong,Bool.and_eq_true,Bool.or_eq_true,decide_eq_true_eq,beq_iff_eq,show ¬(-1:Int)>0 by decide,if_false];split<;>omega
section
variable{X:Cx}{tg:Expr}
theorem E2{pins:List (Addr×Obj)}{σ:L2.St}{H:Hp}{s:Shared}{R:It→Hp→Prop}{E:Value→Shared→Prop}{hi lo:Int}{t u v:Tok}{tk:Nat}(I:Inv X pins σ H s)(h1:-(2^62)≤hi)(h2:hi<2^62)(h3:-(2^62)≤lo)(h4:lo<2^62)
  (q:R (JV hi (hi-lo).toNat) H):wpAny (model X.prog X.w) X.A (pyIter (.ref s.heap.objs.size)) (Oi X pins σ tg R) E {s with heap:=s.heap.push {cls:= .type "range",data:= .fields #[.int hi t, .int lo u, .int (-1) v]},toks:=tk}:=by
 refine wpAny_pyIter_range (IsRange.new ..) (small_down h1 h2 h3 h4) ?_;have I1:Inv X pins σ H {s with heap:=s.heap.push {cls:= .type "range",data:= .fields #[.int hi t, .int lo u, .int (-1) v]},toks:=tk}:=I.kept fun b o e=>Xl e
 refine⟨(s.heap.push {cls:= .type "range",data:= .fields #[.int hi t, .int lo u, .int (-1) v]}).objs.size,[(s.heap.push {cls:= .type "range",data:= .fields #[.int hi t, .int lo u, .int (-1) v]}).objs.size],_,_,H,rfl,
  I1.kept (t':=tk) fun b o e=>Xl e,AU _ hi (hi-lo).toNat,?_,fun b hb=>?_,q⟩
 ·have e1:hi+((0:Nat):Int)*(-1)=hi:=XA;have e2:(((hi-lo).toNat:Nat):Int)-((0:Nat):Int)=Builtin.Range.rangeSize hi lo (-1):=by rw[rangeSize_down];split<;>omega
  show IsRangeIter _ _ (hi+((0:Nat):Int)*(-1)) ((((hi-lo).toNat:Nat):Int)-((0:Nat):Int)) (-1);rw[e1,e2];exact Heap.get?_push_size _ rfl
 ·have e:b=(s.heap.push {cls:= .type "range",data:= .fields #[.int hi t, .int lo u, .int (-1) v]}).objs.size:=by simpa using hb
  subst e;exact I1.sf (Nat.le_refl _) (I1.bL.fresh (Nat.le_refl _))
def LM(ta:TA):TI:=fun σ H R=>ta σ H fun vs H1=>∃i j:Int,vs=[.int i, .int j, .int (-1)]∧(-(2^30)≤i∧i<2^30∧-(2^30)≤j∧j<2^30)∧R (JV i (i-j).toNat) H1
theorem tU{a b c:Expr}{ta:TA}{p pos:Pos}(hg:Gl X "range")(hm:X.mg "range"=none)(ha:PA X [a,b,c] ta)(hs:starEach [a,b,c] X.env=[(false,eval a X.env),(false,eval b X.env),(false,eval c X.env)]:=by rfl)(Hq:starEach [b,c] X.env=[(false,eval b X.env),(false,eval c X.env)]:=by rfl):
  PI X tg (.Call (.Name "range" p) [a,b,c] [] pos) (LM ta):=by
 intro pins s σ H R I h;refine Call_ (kg I hg hm boot_range (PyProof.Rows.callWith_type1 (cj (ha pos pins s σ H _ I h) fun us s1 ⟨vs,H1,I1,r1,q1⟩=>?_) (by rw[hs,Hq]) (by rw[Hq];rfl)));obtain⟨i,j,e,⟨q1,q2,q3,q4⟩,q⟩:=q1;subst e;cases r1 with
 |cons r rr=>
  cases rr with
  |cons r' rr=>
   cases rr with
   |cons r2 rr=>
    cases rr;obtain⟨t,rfl⟩:=r;obtain⟨t',rfl⟩:=r';obtain⟨t2,rfl⟩:=r2;exact call_range_3 (Xy) (E2 I1 Xs (Xx) (Xx) (Xx) q) (Or.inl (PyProof.noPylong_small Xs))
theorem wM{hi:Int}{n:Nat}{g:TG}{tb:TS}{D:Ends}{σ:L2.St}{H:Hp}(Pv:Nat→L2.St→Hp→Prop)(h0:Pv 0 σ H)
  (hs:∀i σ H,i<n→Pv i σ H→g (.int (hi-i)) σ H fun fq H2=>tb {D with nx:=Pv (i+1),ct:=Pv (i+1),bk:=D.nx} fq H2) (hd:∀σ H,Pv n σ H→D.nx σ H):
  ∃W:Nat→Nat→L2.St→Hp→Prop,(∃m,W 0 m σ H)∧∀i m σ H,W i m σ H→
   ((JV hi n).stop i H∧D.nx σ H)∨((JV hi n).go i H∧∃N:L2.St→Hp→Prop,(∀bo H',N bo H'→∃m',m'<m∧W (i+1) m' bo H')∧∀x H',(JV hi n).D5 i H x H'→g x σ H' fun fq H2=>tb {D with nx:=N,ct:=N,bk:=D.nx} fq H2):=by
 refine⟨fun i m σ H=>m=n-i∧i≤n∧Pv i σ H,⟨n,XA,Nat.zero_le _,h0⟩,?_⟩;rintro i m σ H ⟨rfl,XD,p⟩;by_cases gT:i<n
 ·refine .inr ⟨gT,Pv (i+1),fun bo H' p'=>⟨n-(i+1),Xx,rfl,gT,p'⟩,fun x H' y=>?_⟩;obtain⟨e,y⟩:=y;subst e y;exact hs i σ _ gT p
 ·have e:i=n:=Xx;subst e;exact .inl ⟨Nat.le_refl _,hd σ H p⟩
end
theorem AV{d:Addr}{o:Obj}{kvs:List (List Key×V)}{ls:List Str}{js:List Nat}{g:TG}{tt:TT}{te:TE}{σ:L2.St}{H1:Hp}{D:Addr}{Q:VK}(Pv:Nat→List V→L2.St→Hp→Prop)
  (h0:Pv 0 [] (kq ls js σ) (upd H1 D (.lst []))) (hl:∀i ys σ H,i≤kvs.length→Pv i ys σ H→H d=some (.qo o (.dT kvs)))
  (hs:∀i p ys σ H,kvs[i]?=some p→Pv i ys σ H→g p.2 σ H fun fq H3=>tt fq H3 fun b H4=>if b=true then te fq H4 fun y H5=>H5 D=some (.lst ys)∧ys.length<sizeLine∧Pv (i+1) (ys++[y]) fq (upd H5 D (.lst (ys++[y])))else Pv (i+1) ys fq H4)
  (hd:∀ys σ H,Pv kvs.length ys σ H→Q (.ref D) H):qL (Pc d o kvs) ls js g tt te σ H1 D Q:=
 m9 (n:=kvs.length) Pv h0 (fun i ys σ H hi p=>⟨hl i ys σ H (Nat.le_of_lt hi) p,hi⟩) (fun ys σ H p=>⟨hl _ ys σ H (Nat.le_refl _) p,Nat.le_refl _⟩)
  (fun i ys σ H x H2 hi p y=>by
   obtain⟨rfl,q,hq,rfl⟩:=y;exact hs i q ys σ _ hq p) hd
theorem Df{X:Cx}{cm:Bool}{k:Nat}{x:Str}{C:Addr}{ps:List Str}{k_:List V}{sp:Sp}{E:L2.St→XK}{p pos:Pos}(D:lS X.prog X.w X.K X.mg X.base cm k x C ps k_ sp)(hr:d7 cm (k+1) X.A)(hx:Passes (c8 X.prog X.w) X E)(hg:Gl X x:=by rfl)(ub:(x==("__debug__":Str))=false:=by decide):
  PE X (.Call (.Name x p) [] [] pos) (Y2 C sp k_ E BM):=by
 obtain⟨f,fd,ds,ok,M,hm,hb,hd⟩:=D;exact BP M ok hr hg hm hb hd hx ub
end L2
namespace QF
open PySem L2
structure oW(H:Hp)(C x dx e b:Addr)(es bs:List Addr)(f:Nat→Nat→Option Int)(o p:Int)(n m:Nat):Prop where
 ob:H x=some (.ins C dx (fZ o p e b))
 he:H e=some (.lst (es.map V.ref))
 te:il H es (cW f o p) n m
 hb:H b=some (.lst (bs.map V.ref))
 tb:il H bs (Bq f o p) (n+1) (m+1)
theorem oW.keep{H H':Hp}{C x dx e b:Addr}{es bs:List Addr}{f:Nat→Nat→Option Int}{o p:Int}{n m:Nat}(t:oW H C x dx e b es bs f o p n m)(s:au H H'):oW H' C x dx e b es bs f o p n m:=
 ⟨s _ _ t.ob,s _ _ t.he,t.te.same s,s _ _ t.hb,t.tb.same s⟩
theorem Dg(o p:Int)(e b:Addr):(fZ o p e b).lookup ("goes_on":Str)=none:=by kernel_rfl
theorem Y_(o p:Int)(e b:Addr):(fZ o p e b).lookup ("crossings_before":Str)=none:=by kernel_rfl
theorem Gk(o p:Int)(e b:Addr):(fZ o p e b).lookup ("is_brought_by":Str)=none:=by kernel_rfl
theorem I0(o p:Int)(e b:Addr):(fZ o p e b).lookup ("pair_before":Str)=none:=by kernel_rfl
theorem LN(o p:Int)(e b:Addr):(fZ o p e b).lookup ("way_to":Str)=none:=by kernel_rfl
def f6:Option Int→Bool
 |none=>false
 |some b=>decide (0≤b)
def bg(f:Nat→Nat→Option Int)(o p:Int)(i j:Nat):List Pr:=
 (if bq (Bq f o p i (j+1)) o=Bq f o p (i+1) (j+1)then[((i:Int),((j+1:Nat):Int))]else[])++(if bq (Bq f o p (i+1) j) p=Bq f o p (i+1) (j+1)then[(((i+1:Nat):Int),(j:Int))]else[])
def cq(f:Nat→Nat→Option Int)(o p:Int):Nat→Nat→Nat×Nat
 |0,_=>(0,0)
 | _+1,0=>(0,0)
 |i+1,j+1=>if cW f o p i j=Bq f o p (i+1) (j+1)then(i,j)else if bq (Bq f o p i (j+1)) o=Bq f o p (i+1) (j+1)then cq f o p i (j+1)else cq f o p (i+1) j
termination_by i j=>(i,j)
theorem jI(f:Nat→Nat→Option Int)(o p:Int):∀i j,0<i→0<j→(cq f o p i j).1<i∧(cq f o p i j).2<j∨Bq f o p i j=none
 |0,_,h,_=>absurd h Xs
 | _+1,0,_,h=>absurd h Xs
 |i+1,j+1,_,_=>by
  cases hB:Bq f o p (i+1) (j+1)with
  |none=>exact .inr rfl
  |some v=>
   left
   unfold cq;by_cases h1:cW f o p i j=Bq f o p (i+1) (j+1)
   ·rw[Xo h1];exact⟨XA,XA⟩
   ·rw[Xk h1];by_cases h2:bq (Bq f o p i (j+1)) o=Bq f o p (i+1) (j+1)
    ·rw[Xo h2];have hn:Bq f o p i (j+1)≠none:=fun z=>by rw[z,hB]at h2;simp[bq]at h2
     have hi:0<i:=by
      cases i with
      |zero=>exact absurd (gW f o p (j+1)) hn
      |succ i=>omega
     rcases jI f o p i (j+1) hi Xs with z|z
     ·exact⟨Xx,z.2⟩
     ·exact absurd z hn
    ·rw[Xk h2];have hn:Bq f o p (i+1) j≠none:=fun z=>by
      have e:Bq f o p (i+1) (j+1)=ni [cW f o p i j,bq (Bq f o p i (j+1)) o,bq (Bq f o p (i+1) j) p]:=by
       rw[Bq];rfl
      rw[z]at e;have:bq none p=(none:Option Int):=rfl;rw[this]at e;have key:∀a b:Option Int,ni [a,b,none]=a∨ni [a,b,none]=b:=fun a b=>by
       cases a<;>cases b<;>simp[ni]
       rename_i x y
       by_cases X8:x≤y
       ·right;omega
       ·left;omega
      rcases key (cW f o p i j) (bq (Bq f o p i (j+1)) o)with k|k
      ·exact h1 (by rw[e,k])
      ·exact h2 (by rw[e,k])
     have hj:0<j:=by
      cases j with
      |zero=>exact absurd (by unfold Bq;rfl) hn
      |succ j=>omega
     rcases jI f o p (i+1) j Xs hj with z|z
     ·exact⟨z.1,Xx⟩
     ·exact absurd z hn
termination_by i j=>(i,j)
def dQ(f:Nat→Nat→Option Int)(o p:Int):Nat→Nat→Nat→List (Nat×Nat)
 |0,i,j=>[(i,j)]
 |k+1,i,j=>if f6 (Bq f o p i j)=true then dQ f o p k (cq f o p i j).1 (cq f o p i j).2++[(i,j)]else[(i,j)]
def aL(q:Nat×Nat):Pr:=((q.1:Int),(q.2:Int))
inductive oX(C CT:Addr)(vs:List V)(H:Hp)(Q:VK)(u3:XK):Prop
 |mk (x dx w t:Addr) (c:Case) (as:List Addr) (f:Nat→Nat→Option Int) (n m:Nat) (_:vs=[.ref x, .ref w, .ref t]) (_:H x=some (.ins C dx [])) (_:H dx=some (.own x)) (_:H w=some (.lst (as.map V.ref))) (_:il H as f n m) (_:wu H CT t c) (_:n≤1000) (_:m≤1000) (_:∀H' e b,SameBut x H H'→H' x=some (.ins C dx (fZ c.out c.into e b))→Tab H H' e (cW f c.out c.into) n m→(0<n→Tab H H' b (Bq f c.out c.into) (n+1) (m+1))→Q .cD H'):oX C CT vs H Q u3
inductive uO(C:Addr)(vs:List V)(H:Hp)(Q:VK)(u3:XK):Prop
 |mk (x dx e b:Addr) (es bs:List Addr) (f:Nat→Nat→Option Int) (o p:Int) (n m:Nat) (pr:Addr) (i j:Nat) (_:vs=[.ref x, .ref pr]) (_:oW H C x dx e b es bs f o p n m) (_:H pr=some (.tup [.int i, .int j])) (_:i≤n) (_:j≤m) (_:Q (.bl (f6 (Bq f o p i j))) H):uO C vs H Q u3
inductive YK(C:Addr)(vs:List V)(H:Hp)(Q:VK)(u3:XK):Prop
 |mk (x dx e b:Addr) (es bs:List Addr) (f:Nat→Nat→Option Int) (o p:Int) (n m:Nat) (cr pr:Addr) (i j k l:Nat) (_:vs=[.ref x, .ref cr, .ref pr]) (_:oW H C x dx e b es bs f o p n m) (_:H cr=some (.tup [.int i, .int j])) (_:H pr=some (.tup [.int k, .int l])) (_:i≤n) (_:j≤m) (_:k<n) (_:l<m) (_:Q (.bl (decide (cW f o p k l=Bq f o p i j))) H):YK C vs H Q u3
inductive qU(C:Addr)(vs:List V)(H:Hp)(Q:VK)(u3:XK):Prop
 |mk (x dx e b:Addr) (es bs:List Addr) (f:Nat→Nat→Option Int) (o p:Int) (n m:Nat) (cr:Addr) (i j:Nat) (_:vs=[.ref x, .ref cr]) (_:oW H C x dx e b es bs f o p n m) (_:H cr=some (.tup [.int ((i+1:Nat):Int), .int ((j+1:Nat):Int)])) (_:i<n) (_:j<m) (_:∀H' r us,au H H'→H r=none→H' r=some (.lst us)→f' H' us (bg f o p i j)→Q (.ref r) H'):qU C vs H Q u3
inductive uP(C:Addr)(vs:List V)(H:Hp)(Q:VK)(u3:XK):Prop
 |mk (x dx e b:Addr) (es bs:List Addr) (f:Nat→Nat→Option Int) (o p:Int) (n m:Nat) (pr:Addr) (i j:Nat) (_:vs=[.ref x, .ref pr]) (_:oW H C x dx e b es bs f o p n m) (_:H pr=some (.tup [.int i, .int j])) (_:i≤n) (_:j≤m) (_:Bq f o p i j≠none) (_:∀H' r,au H H'→H' r=some (.tup (ke (aL (cq f o p i j))))→Q (.ref r) H'):uP C vs H Q u3
inductive YR(C:Addr)(vs:List V)(H:Hp)(Q:VK)(u3:XK):Prop
 |mk (x dx e b:Addr) (es bs:List Addr) (f:Nat→Nat→Option Int) (o p:Int) (n m:Nat) (pr:Addr) (i j:Nat) (_:vs=[.ref x, .ref pr]) (_:oW H C x dx e b es bs f o p n m) (_:H pr=some (.tup [.int i, .int j])) (_:i<n) (_:j<m) (_:n≤1000) (_:∀H' r us,au H H'→H r=none→H' r=some (.lst us)→f' H' us ((dQ f o p i i j).map aL)→Q (.ref r) H'):YR C vs H Q u3
theorem UN(a b:Option Int):ni [a,b,none]=a∨ni [a,b,none]=b:=by
 cases a<;>cases b<;>simp[ni]
 rename_i x y
 by_cases X8:x≤y
 ·right;omega
 ·left;omega
theorem wN{f:Nat→Nat→Option Int}{o p:Int}{i j:Nat}(hB:Bq f o p (i+1) (j+1)≠none)(h1:cW f o p i j≠Bq f o p (i+1) (j+1)):
  ∃i2 j2,(bg f o p i j)[0]?=some (aL (i2+1,j2+1))∧i2≤i∧j2≤j∧i2+j2<i+j∧Bq f o p (i2+1) (j2+1)≠none∧cq f o p (i2+1) (j2+1)=cq f o p (i+1) (j+1):=by
 by_cases h2:bq (Bq f o p i (j+1)) o=Bq f o p (i+1) (j+1)
 ·have hn:Bq f o p i (j+1)≠none:=fun z=>by rw[z]at h2;exact hB h2.symm
  cases i with
  |zero=>exact absurd (gW f o p (j+1)) hn
  |succ i=>
   refine⟨i,j,?_,by lia,by lia,by lia,hn,?_⟩
   ·unfold bg;rw[Xo h2];rfl
   ·conv=>rhs;unfold cq
    rw[Xk h1,Xo h2]
 ·have hn:Bq f o p (i+1) j≠none:=fun z=>by
   have e:Bq f o p (i+1) (j+1)=ni [cW f o p i j,bq (Bq f o p i (j+1)) o,bq (Bq f o p (i+1) j) p]:=by rw[Bq];rfl
   rw[z,show bq none p=(none:Option Int)from rfl]at e;rcases UN (cW f o p i j) (bq (Bq f o p i (j+1)) o)with k|k
   ·exact h1 (by rw[e,k])
   ·exact h2 (by rw[e,k])
  have h3:bq (Bq f o p (i+1) j) p=Bq f o p (i+1) (j+1):=by
   have e:Bq f o p (i+1) (j+1)=ni [cW f o p i j,bq (Bq f o p i (j+1)) o,bq (Bq f o p (i+1) j) p]:=by rw[Bq];rfl
   have key:∀a b c:Option Int,ni [a,b,c]≠a→ni [a,b,c]≠b→c=ni [a,b,c]:=fun a b c=>by
    cases a<;>cases b<;>cases c<;>simp[ni]<;>lia
   rw[e];exact key _ _ _ (fun z=>h1 (by rw[e];exact z.symm)) (fun z=>h2 (by rw[e];exact z.symm))
  cases j with
  |zero=>exact absurd (by unfold Bq;rfl) hn
  |succ j=>
   refine⟨i,j,?_,by lia,by lia,by lia,hn,?_⟩
   ·unfold bg;rw[Xk h2,Xo h3];rfl
   ·conv=>rhs;unfold cq
    rw[Xk h1,Xk h2]
theorem jl{f:Nat→Nat→Option Int}{o p:Int}{i j:Nat}(h:f6 (Bq f o p i j)=true):0<i∧0<j∧Bq f o p i j≠none:=by
 have hn:Bq f o p i j≠none:=fun z=>by rw[z]at h;cases h
 refine⟨?_,?_,hn⟩
 ·cases i with
  |zero=>exact absurd (gW f o p j) hn
  |succ i=>omega
 ·cases j with
  |zero=>cases i with
   |zero=>exact absurd (gW f o p 0) hn
   |succ i=>exact absurd (by unfold Bq;rfl) hn
  |succ j=>omega
theorem gf{f:Nat→Nat→Option Int}{o p:Int}{i j:Nat}(h:¬f6 (Bq f o p i j)=true):∀k,dQ f o p k i j=[(i,j)]
 |0=>rfl
 |k+1=>by rw[dQ,Xk h]
theorem AW(f:Nat→Nat→Option Int)(o p:Int)(i:Nat):∀k k' j,i≤k→i≤k'→dQ f o p k i j=dQ f o p k' i j:=by
 induction i using Nat.strongRecOn with
 |ind i ih=>
  intro k k' j h h';by_cases hg:f6 (Bq f o p i j)=true
  ·obtain⟨a,b,c⟩:=jl hg;have hl:=(jI f o p i j a b).resolve_right c;obtain⟨k,rfl⟩:∃k1,k=k1+1:=⟨k-1,Xx⟩
   obtain⟨k',rfl⟩:∃k1,k'=k1+1:=⟨k'-1,Xx⟩
   rw[dQ,dQ,Xo hg,Xo hg,ih _ hl.1 k k' _ (Xx) (Xx)]
  ·rw[gf hg,gf hg]
theorem tV{f:Nat→Nat→Option Int}{o p:Int}{i j:Nat}(h:f6 (Bq f o p i j)=true):dQ f o p i i j=dQ f o p (cq f o p i j).1 (cq f o p i j).1 (cq f o p i j).2++[(i,j)]:=by
 obtain⟨a,b,c⟩:=jl h;have hl:=(jI f o p i j a b).resolve_right c;obtain⟨i,rfl⟩:∃k1,i=k1+1:=⟨i-1,Xx⟩
 rw[dQ,Xo h,AW f o p _ i _ _ (Xx) (Nat.le_refl _)]
structure Gm(K:W.Frag)(C:Addr):Prop where
 cl:ua K C
 worth:bN K C "worth"
 way:bN K C "way"
 row:bN K C "row"
 pairs:bN K C "pairs"
def lW(w:Int)(a r p:Addr):List (Str×V):=[("worth", .int w),("way", .ref a),("row", .ref r),("pairs", .ref p)]
theorem jm(w:Int)(a r p:Addr):(lW w a r p).lookup ("worth":Str)=some (V.int w):=by kernel_rfl
theorem uQ(w:Int)(a r p:Addr):(lW w a r p).lookup ("way":Str)=some (V.ref a):=by kernel_rfl
theorem uR(w:Int)(a r p:Addr):(lW w a r p).lookup ("row":Str)=some (V.ref r):=by kernel_rfl
theorem nr(w:Int)(a r p:Addr):(lW w a r p).lookup ("pairs":Str)=some (V.ref p):=by kernel_rfl
theorem I_(w:Int)(a r p:Addr):bf "pairs" (.ref p) (bf "row" (.ref r) (bf "way" (.ref a) (bf "worth" (.int w) [])))=lW w a r p:=by kernel_rfl
inductive qV(C:Addr)(vs:List V)(H:Hp)(Q:VK)(u3:XK):Prop
 |mk (x dx a r p:Addr) (w:Int) (_:vs=[.ref x, .int w, .ref a, .ref r, .ref p]) (_:H x=some (.ins C dx [])) (_:Q .cD (upd H x (.ins C dx (lW w a r p)))):qV C vs H Q u3
inductive qW(C:Addr)(vs:List V)(H:Hp)(Q:VK)(u3:XK):Prop
 |mk (x dx a r p:Addr) (w:Int) (us:List V) (ps:List Pr) (_:vs=[.ref x]) (_:H x=some (.ins C dx (lW w a r p))) (_:H p=some (.lst us)) (_:f' H us ps) (_:ps≠[]) (_:∀H' k t,au H H'→H' k=some (.tup [.int (-w), .ref t])→H' t=some (.tup [.int (lI ps).1, .int (lI ps).2])→Q (.ref k) H'):qW C vs H Q u3
inductive YG(C CF:Addr)(vs:List V)(H:Hp)(Q:VK)(u3:XK):Prop
 |mk (x dx e b:Addr) (es bs:List Addr) (f:Nat→Nat→Option Int) (o p:Int) (n m:Nat) (w:Int) (pr:Addr) (us:List V) (ps:List (Nat×Nat)) (q0:Nat×Nat) (_:vs=[.ref x, .int w, .ref pr]) (_:oW H C x dx e b es bs f o p n m) (_:H pr=some (.lst us)) (_:f' H us (ps.map aL)) (_:∀q∈ps,q.1<n∧q.2<m) (_:(ps.filter fun q=>decide (cW f o p q.1 q.2=some w))[0]?=some q0) (_:n≤1000) (_:ps.length≤5000)
  (_:∀H' y dy wy rw i7,au H H'→H y=none→H dy=none→H wy=none→H rw=none→H' y=some (.ins CF dy (lW w wy rw pr))→H' dy=some (.own y)→H' wy=some (.lst i7)→f' H' i7 ((dQ f o p q0.1 q0.1 q0.2).map aL)→H' rw=some (.lst ((dQ f o p q0.1 q0.1 q0.2).map fun q=>bD (cW f o p q.1 q.2)))→Q (.ref y) H'):YG C CF vs H Q u3
theorem Yp{f:Nat→Nat→Option Int}{o p:Int}{n m:Nat}:∀k i j,i<n→j<m→∀q∈dQ f o p k i j,q.1<n∧q.2<m
 |0,i,j,hi,hj,q,hq=>by
  have:q=(i,j):=by simpa[dQ]using hq
  subst this;exact⟨hi,hj⟩
 |k+1,i,j,hi,hj,q,hq=>by
  by_cases h:f6 (Bq f o p i j)=true
  ·rw[dQ,Xo h]at hq;obtain⟨a,b,c⟩:=jl h;have hl:=(jI f o p i j a b).resolve_right c;rcases List.mem_append.mp hq with z|z
   ·exact Yp k _ _ (Xx) (Xx) q z
   ·have:q=(i,j):=by simpa using z
    subst this;exact⟨hi,hj⟩
  ·rw[gf h]at hq;have:q=(i,j):=by simpa using hq
   subst this;exact⟨hi,hj⟩
theorem wO{f:Nat→Nat→Option Int}{o p:Int}:∀k i j,(dQ f o p k i j).length≤k+1
 |0,i,j=>by simp[dQ]
 |k+1,i,j=>by
  by_cases h:f6 (Bq f o p i j)=true
  ·rw[dQ,Xo h,List.length_append];have:=wO (f:=f) (o:=o) (p:=p) k (cq f o p i j).1 (cq f o p i j).2;simp;omega
  ·rw[gf h];simp
end QF
namespace L2
open PySem PySem.Spec PyProof.Rows PySem.W PySem.Calls
section
variable{X:Cx}
inductive Dh(K:Frag)(x:V)(y:V)(H:Hp)(Q:VK):Prop
 |mk (p q:Addr) (xs ys:List V) (_:x= .ref p) (_:y= .ref q) (_:BB K H p xs) (_:BB K H q ys) (_:xs.all pO=true) (_:ys.all pO=true) (_:Q (.bl (!sk xs ys)) H):Dh K x y H Q
theorem AX(K:Frag)(hu:X.A.units<cLine)(hK:X.K=K:=by rfl):qE X (compareOp .NotEq) (Dh K):=by
 subst hK;intro pins s σ H x y v u Q I rx ry h;obtain⟨p,q,xs,ys,rfl,rfl,hp,hq,f1,f2,k⟩:=h;cases rx;cases ry;obtain⟨its,r,pl,hz⟩:=I.tuple hp;obtain⟨gD,r2,Ln,O7⟩:=I.tuple hq;have he:=wz (A:=X.A.in1) (s:=s) r r2 f1 f2;obtain⟨⟨cls,dd,data,sl⟩,ho,hc,n,hd⟩:=id pl;obtain⟨⟨Lo,F8,data2,XB⟩,AE,ur,n2,hd2⟩:=id Ln;simp only at hc hd ur hd2;subst hc hd ur hd2;refine richCompare_meets_room (op:= .NotEq) ⟨_,ho,rfl⟩ ⟨_,AE,rfl⟩ F.slot_tuple_ne F.entry_tuple_ne (F.args_tuple_ne_2 _ _) (SeqAt.tuple_neAt p q its.toArray gD.toArray n n2 dd F8 sl XB _) ⟨ho,AE,he,?_⟩ hu;have e:(!((List.range (min its.toArray.size gD.toArray.size)).all (fun j=>vJ (xs.getD j .cD) (ys.getD j .cD))&&its.toArray.size==gD.toArray.size))=!sk xs ys:=by
  rw[←l',r.length,r2.length];simp
 rw[e];exact⟨(fun x=>nomatch x), .bl (!sk xs ys),H,I,rfl,k⟩
end
end L2
namespace QF
open PySem L2
theorem c_{p q:Pr}(h:aZ p=aZ q):p=q:=by
 simp only[aZ,List.cons.injEq,Sum.inl.injEq,and_true]at h;exact Prod.ext h.1 h.2
theorem len_sub{α:Type}[DecidableEq α]:∀(l m:List α),l.Nodup→(∀x∈l,x∈m)→l.length≤m.length
 |[],m,_,_=>XA
 |x::r,m,hn,h=>by
  have Bz:=List.nodup_cons.mp hn;have hx:=h x (XA);have:=len_sub r (m.erase x) Bz.2 fun y hy=>(List.mem_erase_of_ne (fun e:y=x=>Bz.1 (by rw[←e];exact hy))).mpr (h y (by simp[hy]))
  rw[List.length_erase_of_mem hx]at this;have:=List.length_pos_of_mem hx;simp;omega
def Gp(E:Pr→Pr→Prop)(p:Pr):Pr→Pr→Prop:=fun a b=>E a b∨(a=p∧b=p)
def oY(E:Pr→Pr→Prop)(p q:Pr):Pr→Pr→Prop:=fun a b=>E a b∨((E a p∨E a q)∧(E b p∨E b q))
theorem AY{E:Pr→Pr→Prop}{p q a b:Pr}:oY E p q a b↔oY E q p a b:=by
 unfold oY;rw[or_comm (a:=E a p),or_comm (a:=E b p)]
structure ny(S:Addr→Prop)(H:Hp)(S':Addr→Prop)(H':Hp):Prop where
 grow:∀a,S' a→S a∨H a=none
 keep:∀a o,¬S a→H a=some o→H' a=some o
theorem ny.trans{S S' Nk:Addr→Prop}{H H' Nl:Hp}(a:ny S H S' H')(b:ny S' H' Nk Nl):ny S H Nk Nl:=by
 refine⟨fun x hx=>?_,fun x o hs hx=>b.keep x o (fun z=>?_) (a.keep x o hs hx)⟩
 ·rcases b.grow x hx with h|h
  ·exact a.grow x h
  ·by_cases hs:S x
   ·exact .inl hs
   ·right
    cases e:H x with
    |none=>rfl
    |some o=>rw[a.keep x o hs e]at h;cases h
 ·rcases a.grow x z with h|h
  ·exact hs h
  ·rw[hx]at h;cases h
theorem ny.same{S:Addr→Prop}{H H':Hp}(s:au H H'):ny S H S H':=⟨fun _ h=> .inl h,fun a o _ h=>s a o h⟩
theorem ny.put{S:Addr→Prop}{H:Hp}{a:Addr}{o:HO}(h:S a):ny S H S (upd H a o):=⟨fun _ h=> .inl h,fun b u hb e=>by rw[af (fun z:b=a=>hb (by rw[z];exact h))];exact e⟩
structure LO(K:W.Frag)(C:Addr):Prop where
 cl:ua K C
 nz:bN K C "leads"
 members:bN K C "members"
def pR(dl dm:Addr):List (Str×V):=[("leads", .ref dl),("members", .ref dm)]
theorem iM(a b:Addr):(pR a b).lookup ("leads":Str)=some (V.ref a):=by kernel_rfl
theorem hU(a b:Addr):(pR a b).lookup ("members":Str)=some (V.ref b):=by kernel_rfl
theorem LP(a b:Addr):bf "members" (.ref b) (bf "leads" (.ref a) [])=pR a b:=by kernel_rfl
theorem LQ(a b:Addr):(pR a b).lookup ("has":Str)=none:=by kernel_rfl
theorem Di(a b:Addr):(pR a b).lookup ("take_in":Str)=none:=by kernel_rfl
theorem Z9(a b:Addr):(pR a b).lookup ("unite":Str)=none:=by kernel_rfl
theorem Ja(a b:Addr):(pR a b).lookup ("told":Str)=none:=by kernel_rfl
def Jb(H:Hp)(v:Option V):Option Pr→Prop
 |none=>v=none
 |some l=>∃t,v=some (.ref t)∧H t=some (.tup (ke l))
def PQ(H:Hp)(S:Addr→Prop)(v:Option V):Option (List Pr)→Prop
 |none=>v=none
 |some ms=>∃a us,v=some (.ref a)∧H a=some (.lst us)∧f' H us ms∧S a
theorem Jb.cw{H H':Hp}{v:Option V}{o:Option Pr}(h:Jb H v o)(t:eV H H'):Jb H' v o:=by
 cases o with
 |none=>exact h
 |some l=>obtain⟨a,h1,h2⟩:=h;exact⟨a,h1,t _ _ h2⟩
structure Bs(H:Hp)(S:Addr→Prop)(dl dm:Addr)(kl km:List (List Key×V))(ld:Pr→Option Pr)(mm:Pr→Option (List Pr)):Prop where
 hl:H dl=some (.dT kl)
 hm:H dm=some (.dT km)
 sl:S dl
 sm:S dm
 ne:dl≠dm
 lv:∀p,Jb H (bj kl (aZ p)) (ld p)
 mv:∀p,PQ H S (bj km (aZ p)) (mm p)
 inj:∀p q a,bj km (aZ p)=some (.ref a)→bj km (aZ q)=some (.ref a)→p=q
 key:∀kv∈km,∃p,kv.1=aZ p
 XH:(km.map (·.1)).Nodup
 ms:∀l ms,mm l=some ms→ms.Nodup∧∀p,p∈ms↔ld p=some l
 ml:∀p l,ld p=some l→∃ms,mm l=some ms
 self:∀l ms,mm l=some ms→ld l=some l
theorem Bs.keep{H H':Hp}{S:Addr→Prop}{dl dm:Addr}{kl km:List (List Key×V)}{ld:Pr→Option Pr}{mm:Pr→Option (List Pr)}(d:Bs H S dl dm kl km ld mm)(h:∀a o,S a→H a=some o→H' a=some o)(t:eV H H'):Bs H' S dl dm kl km ld mm:=by
 refine⟨h _ _ d.sl d.hl,h _ _ d.sm d.hm,d.sl,d.sm,d.ne,fun p=>(d.lv p).cw t,fun p=>?_,d.inj,d.key,d.XH,d.ms,d.ml,d.self⟩;have:=d.mv p;cases e:mm p with
 |none=>rw[e]at this;exact this
 |some ms=>
  rw[e]at this;obtain⟨a,us,h1,h2,h3,h4⟩:=this;exact⟨a,us,h1,h _ _ h4 h2,h3.cw t,h4⟩
theorem Bs.ue{H:Hp}{S:Addr→Prop}{dl dm:Addr}{kl km:List (List Key×V)}{ld:Pr→Option Pr}{mm:Pr→Option (List Pr)}(d:Bs H S dl dm kl km ld mm){ms:List Pr}(hn:ms.Nodup)(h:∀p∈ms,∃l,ld p=some l):ms.length≤kl.length:=by
 have:=len_sub (ms.map aZ) (kl.map (·.1)) (List.Pairwise.map _ (fun a b Dj z=>Dj (c_ z)) hn) fun k hk=>by
  obtain⟨p,hp,rfl⟩:=List.mem_map.mp hk;obtain⟨l,hl⟩:=h p hp;have:=d.lv p;rw[hl]at this;obtain⟨t,h1,_⟩:=this;exact Z2 h1
 simpa using this
theorem Bs.take{H H':Hp}{S:Addr→Prop}{dl dm a t:Addr}{kl km:List (List Key×V)}{ld:Pr→Option Pr}{mm:Pr→Option (List Pr)}{p:Pr}(d:Bs H S dl dm kl km ld mm)(hn:ld p=none)(ht:H t=some (.tup (ke p)))(ha:H a=none)
  (h1:H' dl=some (.dT (putK kl (aZ p) (.ref t)))) (h2:H' dm=some (.dT (putK km (aZ p) (.ref a)))) (h3:H' a=some (.lst [.ref t])) (hk:∀b o,b≠dl→b≠dm→H b=some o→H' b=some o):
  Bs H' (fun x=>S x∨x=a) dl dm (putK kl (aZ p) (.ref t)) (putK km (aZ p) (.ref a)) (fun q=>if q=p then some p else ld q) (fun q=>if q=p then some [p]else mm q):=by
 have T:eV H H':=fun b v hb=>hk b _ (fun z=>by rw[z,d.hl]at hb;cases hb) (fun z=>by rw[z,d.hm]at hb;cases hb) hb
 have RF:mm p=none:=by
  cases e:mm p with
  |none=>rfl
  |some ms=>have:=d.self p ms e;rw[hn]at this;cases this
 have Dk:bj km (aZ p)=none:=by have:=d.mv p;rw[RF]at this;exact this
 have LR:∀q b,bj km (aZ q)=some (.ref b)→b≠a:=fun q b hq z=>by
  have:=d.mv q;cases e:mm q with
  |none=>rw[e]at this;have:bj km (aZ q)=none:=this;rw[this]at hq;cases hq
  |some ms=>
   rw[e]at this;obtain⟨a',us,e1,e2,_⟩:=this;rw[hq]at e1;cases e1;rw[z,ha]at e2;cases e2
 refine⟨h1,h2, .inl d.sl, .inl d.sm,d.ne,fun q=>?_,fun q=>?_,fun q r b hq hr=>?_,fun kv Nm=>?_,?_,fun l ms hl=>?_,fun q l hq=>?_,fun l ms hl=>?_⟩
 ·rw[jf];by_cases e:q=p
  ·rw[Xo (by rw[e]),Xo e];exact⟨t,rfl,T _ _ ht⟩
  ·rw[Xk (fun z=>e (c_ z)),Xk e];exact(d.lv q).cw T
 ·show PQ _ _ _ (if q=p then some [p]else mm q);rw[jf];by_cases e:q=p
  ·rw[Xo (by rw[e]),Xo e];exact⟨a,_,rfl,h3,f'.one (T _ _ ht), .inr rfl⟩
  ·rw[Xk (fun z=>e (c_ z)),Xk e];have:=d.mv q;cases e2:mm q with
   |none=>rw[e2]at this;exact this
   |some ms=>
    rw[e2]at this;obtain⟨b,us,z1,z2,z3,z4⟩:=this;exact⟨b,us,z1,hk b _ (fun z=>by rw[z,d.hl]at z2;cases z2) (fun z=>by rw[z,d.hm]at z2;cases z2) z2,z3.cw T, .inl z4⟩
 ·rw[jf]at hq hr;by_cases e:q=p
  ·by_cases e2:r=p
   ·rw[e,e2]
   ·rw[Xo (by rw[e])]at hq;rw[Xk (fun z=>e2 (c_ z))]at hr;cases hq;exact absurd rfl (LR r _ hr)
  ·rw[Xk (fun z=>e (c_ z))]at hq;by_cases e2:r=p
   ·rw[Xo (by rw[e2])]at hr;cases hr;exact absurd rfl (LR q _ hq)
   ·rw[Xk (fun z=>e2 (c_ z))]at hr;exact d.inj q r b hq hr
 ·rw[qG _ Dk]at Nm;rcases List.mem_append.mp Nm with z|z
  ·exact d.key kv z
  ·exact⟨p,by rw[List.mem_singleton.mp z]⟩
 ·rw[qG _ Dk,List.map_append];refine List.nodup_append.mpr ⟨d.XH,XA,fun x hx y hy e=>?_⟩;have hy:y=aZ p:=by simpa using hy
  rw[e,hy]at hx;exact wj Dk hx
 ·have hl:(if l=p then some [p]else mm l)=some ms:=hl;by_cases e:l=p
  ·rw[Xo e]at hl;cases hl;refine⟨XA,fun q=>?_⟩;rw[List.mem_singleton];show q=p↔(if q=p then some p else ld q)=some l;by_cases e2:q=p
   ·rw[Xo e2,e];simp[e2]
   ·rw[Xk e2];refine⟨fun z=>absurd z e2,fun z=>?_⟩;obtain⟨ms,Bt⟩:=d.ml q l z;rw[e,RF]at Bt;cases Bt
  ·rw[Xk e]at hl;obtain⟨z1,z2⟩:=d.ms l ms hl;refine⟨z1,fun q=>?_⟩;rw[z2];show ld q=some l↔(if q=p then some p else ld q)=some l;by_cases e2:q=p
   ·rw[Xo e2,e2,hn];refine⟨fun z=>(by cases z),fun z=>absurd (Option.some.inj z).symm e⟩
   ·rw[Xk e2]
 ·have hq:(if q=p then some p else ld q)=some l:=hq;show ∃ms,(if l=p then some [p]else mm l)=some ms;by_cases e:l=p
  ·exact⟨[p],Xo e⟩
  ·rw[Xk e];by_cases e2:q=p
   ·rw[Xo e2]at hq;exact absurd (Option.some.inj hq).symm e
   ·rw[Xk e2]at hq;exact d.ml q l hq
 ·have hl:(if l=p then some [p]else mm l)=some ms:=hl;show(if l=p then some p else ld l)=some l;by_cases e:l=p
  ·rw[Xo e,e]
  ·rw[Xk e]at hl⊢;exact d.self l ms hl
theorem Z1{κ:Type}[DecidableEq κ]{k:κ}{v:V}:∀{kvs:List (κ×V)}{i:Nat},(kvs.map (·.1)).Nodup→kvs[i]?=some (k,v)→bj kvs k=some v
 |[],i,_,h=>by simp at h
 |p::r,0,_,h=>by
  have h:p=(k,v):=by simpa using h
  subst h;exact cf rfl
 |p::r,i+1,hn,h=>by
  have Bz:=List.nodup_cons.mp (show(p.1::r.map (·.1)).Nodup from hn);have h:r[i]?=some (k,v):=by simpa using h
  rw[bW (fun e=>Bz.1 (by rw[e];exact List.mem_map.mpr ⟨_,Xi h,rfl⟩))];exact Z1 Bz.2 h
theorem wQ{κ:Type}[DecidableEq κ]{k:κ}{v:V}:∀{kvs:List (κ×V)},bj kvs k=some v→∃i:Nat,kvs[i]?=some (k,v)
 |[],h=>by cases h
 |p::r,h=>by
  by_cases e:p.1=k
  ·rw[cf e]at h;exact⟨0,by simp;exact Prod.ext e (Option.some.inj h)⟩
  ·rw[bW e]at h;obtain⟨i,hi⟩:=wQ h;exact⟨i+1,by simpa using hi⟩
theorem lq{κ:Type}[DecidableEq κ](k j:κ):∀kvs:List (κ×V),bj (ie kvs k) j=if j=k then none else bj kvs j
 |[]=>by simp[ie,bj]
 |p::r=>by
  have ih:=lq k j r;unfold ie at ih⊢;rw[List.filter_cons];by_cases e:p.1=k
  ·rw[Xk (by simpa using e),ih];by_cases e2:j=k
   ·rw[Xo e2,Xo e2]
   ·rw[Xk e2,Xk e2,bW (fun z=>e2 (z.symm.trans e))]
  ·rw[Xo (by simpa using e)];by_cases e2:p.1=j
   ·rw[cf e2,Xk (fun z=>e (e2.trans z)),cf e2]
   ·rw[bW e2,ih,bW e2]
theorem Bs.LS{H H':Hp}{S:Addr→Prop}{dl dm al tl:Addr}{kl so km:List (List Key×V)}{ld:Pr→Option Pr}{mm:Pr→Option (List Pr)}{l g:Pr}{m1 m2:List Pr}{mf i7:List V}(d:Bs H S dl dm kl km ld mm)(XJ:l≠g)(h1:mm l=some m1)(h2:mm g=some m2)(XE:bj km (aZ l)=some (.ref al))(P1:f' H mf m1)(P2:f' H i7 m2)(OB:H al=some (.lst mf))(wR:H tl=some (.tup (ke l)))
  (RG:∀r,bj so (aZ r)=if r∈m2 then some (.ref tl)else bj kl (aZ r)) (e1:H' dl=some (.dT so)) (e2:H' dm=some (.dT (ie km (aZ g)))) (e3:H' al=some (.lst (mf++i7))) (hk:∀b o,b≠dl→b≠dm→b≠al→H b=some o→H' b=some o):
  Bs H' S dl dm so (ie km (aZ g)) (fun r=>if r∈m2 then some l else ld r) (fun r=>if r=g then none else if r=l then some (m1++m2)else mm r):=by
 have T:eV H H':=fun b v hb=>hk b _ (fun z=>by rw[z,d.hl]at hb;cases hb) (fun z=>by rw[z,d.hm]at hb;cases hb) (fun z=>by rw[z,OB]at hb;cases hb) hb
 obtain⟨n1,q1⟩:=d.ms l m1 h1;obtain⟨n2,q2⟩:=d.ms g m2 h2;refine⟨e1,e2,d.sl,d.sm,d.ne,fun r=>?_,fun r=>?_,fun p q a hp hq=>?_,fun kv Nm=>d.key kv (List.mem_filter.mp Nm).1,d.XH.sublist (List.filter_sublist.map _),fun x ms hx=>?_,fun p x hp=>?_,fun x ms hx=>?_⟩
 ·show Jb H' _ (if r∈m2 then some l else ld r);rw[RG];by_cases e:r∈m2
  ·rw[Xo e,Xo e];exact⟨tl,rfl,T _ _ wR⟩
  ·rw[Xk e,Xk e];exact(d.lv r).cw T
 ·show PQ H' S _ (if r=g then none else if r=l then some (m1++m2)else mm r);rw[lq];by_cases e:r=g
  ·rw[Xo (by rw[e]),Xo e];rfl
  ·rw[Xk (fun z=>e (c_ z)),Xk e];by_cases e4:r=l
   ·rw[Xo e4,e4,XE];have:=d.mv l;rw[h1]at this;obtain⟨a,us,z1,_,_,z4⟩:=this;rw[XE]at z1;cases z1;exact⟨al,_,rfl,e3,(P1.append P2).cw T,z4⟩
   ·rw[Xk e4];have:=d.mv r;cases e5:mm r with
    |none=>rw[e5]at this;exact this
    |some ms=>
     rw[e5]at this;obtain⟨a,us,z1,z2,z3,z4⟩:=this;exact⟨a,us,z1,hk a _ (fun z=>by rw[z,d.hl]at z2;cases z2) (fun z=>by rw[z,d.hm]at z2;cases z2) (fun z=>e4 (d.inj r l al (by rw[z1,z]) XE)) z2,z3.cw T,z4⟩
 ·rw[lq]at hp hq;by_cases e:p=g
  ·rw[Xo (by rw[e])]at hp;cases hp
  ·by_cases e4:q=g
   ·rw[Xo (by rw[e4])]at hq;cases hq
   ·rw[Xk (fun z=>e (c_ z))]at hp;rw[Xk (fun z=>e4 (c_ z))]at hq;exact d.inj p q a hp hq
 ·have hx:(if x=g then none else if x=l then some (m1++m2)else mm x)=some ms:=hx;by_cases e:x=g
  ·rw[Xo e]at hx;cases hx
  ·rw[Xk e]at hx;by_cases e4:x=l
   ·rw[Xo e4]at hx;cases hx;refine⟨List.nodup_append.mpr ⟨n1,n2,fun a ha b hb z=>?_⟩,fun p=>?_⟩
    ·have ha:=(q1 a).mp ha;have hb:=(q2 b).mp hb;rw[z,hb]at ha;exact XJ (Option.some.inj ha).symm
    ·rw[List.mem_append];show p∈m1∨p∈m2↔(if p∈m2 then some l else ld p)=some x;rw[e4];by_cases e5:p∈m2
     ·rw[Xo e5];simp[e5]
     ·rw[Xk e5,←q1];simp[e5]
   ·rw[Xk e4]at hx;obtain⟨z1,z2⟩:=d.ms x ms hx;refine⟨z1,fun p=>?_⟩;rw[z2];show ld p=some x↔(if p∈m2 then some l else ld p)=some x;by_cases e5:p∈m2
    ·rw[Xo e5,(q2 p).mp e5];exact⟨fun z=>absurd (Option.some.inj z).symm e,fun z=>absurd (Option.some.inj z).symm e4⟩
    ·rw[Xk e5]
 ·have hp:(if p∈m2 then some l else ld p)=some x:=hp;show ∃ms,(if x=g then none else if x=l then some (m1++m2)else mm x)=some ms;by_cases e5:p∈m2
  ·rw[Xo e5]at hp;cases hp;exact⟨m1++m2,by rw[Xk XJ,if_pos rfl]⟩
  ·rw[Xk e5]at hp;have hg:x≠g:=fun z=>e5 ((q2 p).mpr (by rw[hp,z]))
   by_cases e4:x=l
   ·exact⟨m1++m2,by rw[Xk hg,Xo e4]⟩
   ·obtain⟨ms,Bt⟩:=d.ml p x hp;exact⟨ms,by rw[Xk hg,Xk e4];exact Bt⟩
 ·have hx:(if x=g then none else if x=l then some (m1++m2)else mm x)=some ms:=hx;show(if x∈m2 then some l else ld x)=some x;by_cases e:x=g
  ·rw[Xo e]at hx;cases hx
  ·rw[Xk e]at hx;have Nn:ld x=some x:=by
    by_cases e4:x=l
    ·rw[e4];exact d.self l m1 h1
    ·rw[Xk e4]at hx;exact d.self x ms hx
   have:x∉m2:=fun z=>by
    have:=(q2 x).mp z;rw[Nn]at this;exact e (Option.some.inj this)
   rw[Xk this,Nn]
theorem Jc{ld:Pr→Option Pr}{l g p q:Pr}{m2:List Pr}(XJ:l≠g)(hp:ld p=some l)(hq:ld q=some g)(q2:∀r,r∈m2↔ld r=some g){E:Pr→Pr→Prop}(hE:∀a b,E a b↔∃x,ld a=some x∧ld b=some x)(a b:Pr):
  oY E p q a b↔∃x,(if a∈m2 then some l else ld a)=some x∧(if b∈m2 then some l else ld b)=some x:=by
 have A:∀c,(E c p∨E c q)↔(if c∈m2 then some l else ld c)=some l:=fun c=>by
  rw[hE,hE,hp,hq];by_cases e:c∈m2
  ·rw[Xo e,(q2 c).mp e];simp
  ·rw[Xk e];have:ld c≠some g:=fun z=>e ((q2 c).mpr z)
   constructor
   ·rintro(⟨x,h1,h2⟩|⟨x,h1,h2⟩)
    ·cases h2;exact h1
    ·cases h2;exact absurd h1 this
   ·exact fun z=> .inl ⟨l,z,rfl⟩
 unfold oY;rw[A,A,hE];constructor
 ·rintro(⟨x,h1,h2⟩|⟨h1,h2⟩)
  ·by_cases e:x=g
   ·subst e;exact⟨l,by rw[Xo ((q2 a).mpr h1)],by rw[Xo ((q2 b).mpr h2)]⟩
   ·exact⟨x,by rw[Xk (fun z=>e (by have:=(q2 a).mp z;rw[h1]at this;exact Option.some.inj this))];exact h1,by rw[Xk (fun z=>e (by have:=(q2 b).mp z;rw[h2]at this;exact Option.some.inj this))];exact h2⟩
  ·exact⟨l,h1,h2⟩
 ·rintro⟨x,h1,h2⟩;by_cases e:x=l
  ·subst e;exact .inr ⟨h1,h2⟩
  ·left
   refine⟨x,?_,?_⟩
   ·by_cases e2:a∈m2
    ·rw[Xo e2]at h1;exact absurd (Option.some.inj h1).symm e
    ·rw[Xk e2]at h1;exact h1
   ·by_cases e2:b∈m2
    ·rw[Xo e2]at h2;exact absurd (Option.some.inj h2).symm e
    ·rw[Xk e2]at h2;exact h2
def i8(H:Hp)(C g:Addr)(S:Addr→Prop)(E:Pr→Pr→Prop)(B:Nat):Prop:=
 ∃dg dl dm kl km ld mm,H g=some (.ins C dg (pR dl dm))∧¬S g∧Bs H S dl dm kl km ld mm∧(∀a b,E a b↔∃l,ld a=some l∧ld b=some l)∧kl.length≤B∧km.length≤B
theorem i8.keep{H H':Hp}{C g:Addr}{S:Addr→Prop}{E:Pr→Pr→Prop}{B:Nat}(G:i8 H C g S E B)(h:∀a o,S a→H a=some o→H' a=some o)(t:eV H H')(hg:∀o,H g=some o→H' g=some o):i8 H' C g S E B:=by
 obtain⟨dg,dl,dm,kl,km,ld,mm,a1,a2,a3,a4⟩:=G;exact⟨dg,dl,dm,kl,km,ld,mm,hg _ a1,a2,a3.keep h t,a4⟩
theorem i8.same{H H':Hp}{C g:Addr}{S:Addr→Prop}{E:Pr→Pr→Prop}{B:Nat}(G:i8 H C g S E B)(s:au H H'):i8 H' C g S E B:=G.keep (fun a o _ h=>s a o h) (eV.same s) (fun o h=>s _ _ h)
theorem i8.iff{H:Hp}{C g:Addr}{S:Addr→Prop}{E E':Pr→Pr→Prop}{B B':Nat}(G:i8 H C g S E B)(h:∀a b,E' a b↔E a b)(hB:B≤B'):i8 H C g S E' B':=by
 obtain⟨dg,dl,dm,kl,km,ld,mm,a1,a2,a3,a4,a5,a6⟩:=G;exact⟨dg,dl,dm,kl,km,ld,mm,a1,a2,a3,fun a b=>(h a b).trans (a4 a b),Xx,Xx⟩
structure Told(E:Pr→Pr→Prop)(gs:List (List Pr)):Prop where
 qT:∀ps∈gs,ps.Pairwise fun p q=>iL p q=true
 ne:∀ps∈gs,ps≠[]
 cls:∀ps∈gs,∀a∈ps,∀b,b∈ps↔E a b
 all:∀a,E a a→∃ps∈gs,a∈ps
 apart:gs.Pairwise fun ps qs=>∀a∈ps,a∉qs
inductive qX(C:Addr)(vs:List V)(H:Hp)(Q:VK)(u3:XK):Prop
 |mk (x dx:Addr) (_:vs=[.ref x]) (_:H x=some (.ins C dx [])) (_:∀H' S,SameBut x H H'→(∀a,S a→H a=none)→i8 H' C x S (fun _ _=>False) 0→Q .cD H'):qX C vs H Q u3
inductive YE(C:Addr)(vs:List V)(H:Hp)(Q:VK)(u3:XK):Prop
 |mk (x t:Addr) (p:Pr) (S:Addr→Prop) (E:Pr→Pr→Prop) (B:Nat) (_:vs=[.ref x, .ref t]) (_:i8 H C x S E B) (_:H t=some (.tup (ke p))) (_:∀b:Bool,(b=true↔E p p)→Q (.bl b) H):YE C vs H Q u3
inductive uS(C:Addr)(vs:List V)(H:Hp)(Q:VK)(u3:XK):Prop
 |mk (x t:Addr) (p:Pr) (S:Addr→Prop) (E:Pr→Pr→Prop) (B:Nat) (_:vs=[.ref x, .ref t]) (_:i8 H C x S E B) (_:H t=some (.tup (ke p))) (_:B≤10000) (_:∀H' S',ny S H S' H'→i8 H' C x S' (Gp E p) (B+1)→Q .cD H'):uS C vs H Q u3
inductive qY(C:Addr)(vs:List V)(H:Hp)(Q:VK)(u3:XK):Prop
 |mk (x t u:Addr) (p q:Pr) (S:Addr→Prop) (E:Pr→Pr→Prop) (B:Nat) (_:vs=[.ref x, .ref t, .ref u]) (_:i8 H C x S E B) (_:H t=some (.tup (ke p))) (_:H u=some (.tup (ke q))) (_:E p p) (_:E q q) (_:B≤10000) (_:∀H',ny S H S H'→i8 H' C x S (oY E p q) B→Q .cD H'):qY C vs H Q u3
inductive uT(C:Addr)(vs:List V)(H:Hp)(Q:VK)(u3:XK):Prop
 |mk (x:Addr) (S:Addr→Prop) (E:Pr→Pr→Prop) (B:Nat) (_:vs=[.ref x]) (_:i8 H C x S E B) (_:B<10000) (_:∀H' r us gs,ny S H S H'→H r=none→H' r=some (.lst us)→fC H' us gs→(∀(k:Nat) a,us[k]?=some (.ref a)→H a=none)→Told E gs→Q (.ref r) H'):uT C vs H Q u3
theorem YN(g:Pr→Option Int)(o i:Int){as:List Pr}(fj:as≠[])(q:Pr)(bs:List Pr):vl g o i (as++q::bs)=vl g o i as-gp o i (lstP as) q+vl g o i (q::bs):=by
 rw[uL,qw g o i fj];omega
theorem Wy.app{g:Pr→Option Int}{as:List Pr}{q:Pr}{bs:List Pr}(a:Wy g as)(b:Wy g (q::bs))(s:vK (lstP as) q):Wy g (as++q::bs):=by
 refine⟨XA,fun x hx=>?_,List.pairwise_append.mpr ⟨a.up,b.up,fun x hx y hy=>?_⟩⟩
 ·rcases List.mem_append.mp hx with h|h
  ·exact a.ok x h
  ·exact b.ok x h
 ·have h1:vK x q:=by
   rcases pw_lst a.up hx with e|e
   ·rw[e];exact s
   ·exact oT e s
  rcases List.mem_cons.mp hy with e|e
  ·rw[e];exact h1
  ·exact oT h1 ((List.pairwise_cons.mp b.up).1 y e)
theorem Wy.left{g:Pr→Option Int}{as bs:List Pr}(w:Wy g (as++bs))(h:as≠[]):Wy g as:=⟨h,fun x hx=>w.ok x (List.mem_append_left _ hx),(List.pairwise_append.mp w.up).1⟩
theorem Wy.right{g:Pr→Option Int}{as bs:List Pr}(w:Wy g (as++bs))(h:bs≠[]):Wy g bs:=⟨h,fun x hx=>w.ok x (List.mem_append_right _ hx),(List.pairwise_append.mp w.up).2.1⟩
section
variable(f:Nat→Nat→Option Int)(o p W:Int)
def BW(ps:List Pr):Prop:=Wy (lf f) ps∧vl (lf f) o p ps=W
def ed:Prop:=∀ps,Wy (lf f) ps→vl (lf f) o p ps≤W
inductive fY:Pr→Pr→Prop
 |way {a b:Pr} (ps:List Pr) (_:BW f o p W ps) (_:a∈ps) (_:b∈ps):fY a b
 |tr {a b c:Pr} (_:fY a b) (_:fY b c):fY a c
def sq(as:List Pr)(x y:Int):Int:=vl (lf f) o p as-(o*(x-1-(lstP as).1)+p*(y-1-(lstP as).2))
def LU(q:Pr)(bs:List Pr)(x y:Int):Int:=vl (lf f) o p (q::bs)-(o*(q.1-x)+p*(q.2-y))
def Over(x y:Int)(r:Pr):Prop:=∃as q bs,Wy (lf f) as∧Wy (lf f) (q::bs)∧(lstP as).1<x∧(lstP as).2<y∧x≤q.1∧y≤q.2∧vl (lf f) o p (as++q::bs)=W∧r∈q::bs
end
section
variable{f:Nat→Nat→Option Int}{o p W:Int}
theorem fY.symm{a b:Pr}(h:fY f o p W a b):fY f o p W b a:=by
 induction h with
 |way ps h1 h2 h3=>exact .way ps h1 h3 h2
 |tr _ _ i1 i2=>exact .tr i2 i1
theorem fY.left{a b:Pr}(h:fY f o p W a b):fY f o p W a a:= .tr h h.symm
theorem fY.on{a b:Pr}(h:fY f o p W a b):∃ps,BW f o p W ps∧a∈ps:=by
 induction h with
 |way ps h1 h2 h3=>exact⟨ps,h1,h2⟩
 |tr _ _ i1 _=>exact i1
theorem mh{as:List Pr}{q:Pr}{bs:List Pr}(fj:as≠[])(x y:Int):vl (lf f) o p (as++q::bs)=sq f o p as x y+LU f o p q bs x y:=by
 rw[YN _ _ _ fj];unfold sq LU gp;have e1:q.1-(lstP as).1-1=(x-1-(lstP as).1)+(q.1-x):=Xx;have e2:q.2-(lstP as).2-1=(y-1-(lstP as).2)+(q.2-y):=Xx;rw[e1,e2,Int.mul_add,Int.mul_add];omega
theorem lr(T:ed f o p W){as vM:List Pr}{q:Pr}{bs:List Pr}{x y:Int}(a:Wy (lf f) as)(b:Wy (lf f) (q::bs))(h3:x≤q.1)(h4:y≤q.2)(hW:vl (lf f) o p (as++q::bs)=W)
  (a':Wy (lf f) vM) (l1:(lstP vM).1<x) (l2:(lstP vM).2<y) (hb:sq f o p as x y≤sq f o p vM x y):BW f o p W (vM++q::bs):=by
 have w:=a'.app b ⟨Xx,Xx⟩;refine⟨w,?_⟩;have:=T _ w;rw[mh a'.ne x y]at this⊢;rw[mh a.ne x y]at hW;omega
theorem uU{as:List Pr}{i j:Nat}(a:Wy (lf f) as)(l1:(lstP as).1<(i:Int))(l2:(lstP as).2<(j:Int)):∃b,Bq f o p i j=some b∧sq f o p as i j≤b:=by
 have m:=fo f o p i j;cases e:Bq f o p i j with
 |none=>rw[e]at m;exact absurd ⟨as,a,l1,l2,rfl⟩ (m _)
 |some b=>rw[e]at m;exact⟨b,rfl,m.2 _ ⟨as,a,l1,l2,rfl⟩⟩
theorem uV{i j:Nat}{b:Int}(e:Bq f o p i j=some b):∃as,Wy (lf f) as∧(lstP as).1<(i:Int)∧(lstP as).2<(j:Int)∧sq f o p as i j=b:=by
 have m:=fo f o p i j;rw[e]at m;obtain⟨as,h1,h2,h3,h4⟩:=m.1;exact⟨as,h1,h2,h3,h4.symm⟩
theorem lu{i j:Nat}{b:Int}(e:cW f o p i j=some b):∃as,Wy (lf f) as∧lstP as=aL (i,j)∧vl (lf f) o p as=b:=by
 have m:=qR f o p i j;rw[e]at m;obtain⟨as,h1,h2,h3⟩:=m.1;exact⟨as,h1,h2,h3.symm⟩
theorem uW{as:List Pr}{i j:Nat}(a:Wy (lf f) as)(l:lstP as=aL (i,j)):∃b,cW f o p i j=some b∧vl (lf f) o p as≤b:=by
 have m:=qR f o p i j;cases e:cW f o p i j with
 |none=>rw[e]at m;exact absurd ⟨as,a,l,rfl⟩ (m _)
 |some b=>rw[e]at m;exact⟨b,rfl,m.2 _ ⟨as,a,l,rfl⟩⟩
theorem Dm{i j:Nat}(e:cW f o p i j=some W):fY f o p W (aL (i,j)) (aL (i,j)):=by
 obtain⟨as,h1,h2,h3⟩:=lu e;have:aL (i,j)∈as:=by rw[←h2];exact cQ h1.ne
 exact .way as ⟨h1,h3⟩ this this
theorem AZ(T:ed f o p W){i j:Nat}{r:Pr}(h:Over f o p W ((i+1:Nat):Int) ((j+1:Nat):Int) r)(e:cW f o p i j=Bq f o p (i+1) (j+1)):fY f o p W (aL (i,j)) r:=by
 obtain⟨as,q,bs,a,b,l1,l2,l3,l4,hW,hr⟩:=h;obtain⟨v,hv,hle⟩:=uU (o:=o) (p:=p) a l1 l2;rw[hv]at e;obtain⟨vM,a',k1,k2⟩:=lu e;have hb:sq f o p vM ((i+1:Nat):Int) ((j+1:Nat):Int)=v:=by
  unfold sq;rw[k1,k2];have e1:((i+1:Nat):Int)-1-(aL (i,j)).1=0:=by show((i+1:Nat):Int)-1-(i:Int)=0;omega
  have e2:((j+1:Nat):Int)-1-(aL (i,j)).2=0:=by show((j+1:Nat):Int)-1-(j:Int)=0;omega
  rw[e1,e2,Int.mul_zero,Int.mul_zero];omega
 have:=lr T a b l3 l4 hW a' (by rw[k1];simp[aL];omega) (by rw[k1];simp[aL];omega) (by rw[hb];exact hle);refine .way _ this (List.mem_append_left _ ?_) (List.mem_append_right _ hr);rw[←k1];exact cQ a'.ne
theorem pS(T:ed f o p W){i j x y:Nat}{r:Pr}{c:Int}(h:Over f o p W ((i+1:Nat):Int) ((j+1:Nat):Int) r)(hx:x≤i+1)(hy:y≤j+1)(hc:c=o*((i+1:Nat)-x:Int)+p*((j+1:Nat)-y:Int))(e:bq (Bq f o p x y) c=Bq f o p (i+1) (j+1)):Over f o p W (x:Int) (y:Int) r:=by
 obtain⟨as,q,bs,a,b,l1,l2,l3,l4,hW,hr⟩:=h;obtain⟨v,hv,hle⟩:=uU (o:=o) (p:=p) a l1 l2;rw[hv]at e;cases e2:Bq f o p x y with
 |none=>rw[e2]at e;cases e
 |some v2=>
  rw[e2]at e;have e:v2-c=v:=by simpa[bq]using e
  obtain⟨vM,a',k1,k2,k3⟩:=uV e2;have hb:sq f o p vM ((i+1:Nat):Int) ((j+1:Nat):Int)=v:=by
   unfold sq at k3⊢;have e1:((i+1:Nat):Int)-1-(lstP vM).1=((x:Int)-1-(lstP vM).1)+((i+1:Nat)-x:Int):=by lia
   have e2:((j+1:Nat):Int)-1-(lstP vM).2=((y:Int)-1-(lstP vM).2)+((j+1:Nat)-y:Int):=by lia
   rw[e1,e2,Int.mul_add,Int.mul_add]
   lia
  have:=lr T a b l3 l4 hW a' Xv (by lia) (by rw[hb];exact hle);exact⟨vM,q,bs,a',b,k1,k2,by lia,by lia,this.2,hr⟩
theorem E3(T:ed f o p W){i j:Nat}(h:fY f o p W (aL (i,j)) (aL (i,j)))(g:f6 (Bq f o p i j)=true):Over f o p W (i:Int) (j:Int) (aL (i,j)):=by
 obtain⟨ws,⟨hw,hW⟩,hm⟩:=h.on;obtain⟨u,v,rfl⟩:=List.append_of_mem hm;cases e:Bq f o p i j with
 |none=>rw[e]at g;cases g
 |some b=>
  rw[e]at g;have g:0≤b:=by simpa[f6]using g
  obtain⟨as,a,k1,k2,k3⟩:=uV e;have hr:Wy (lf f) (aL (i,j)::v):=hw.right Xr;have ws:=a.app hr ⟨k1,k2⟩;have hle:=T _ ws;have cv:=mh (f:=f) (o:=o) (p:=p) (q:=aL (i,j)) (bs:=v) a.ne (i:Int) (j:Int);have ha:LU f o p (aL (i,j)) v (i:Int) (j:Int)=vl (lf f) o p (aL (i,j)::v):=by
   unfold LU;have e1:(aL (i,j)).1-(i:Int)=0:=by simp[aL]
   have e2:(aL (i,j)).2-(j:Int)=0:=by simp[aL]
   rw[e1,e2,Int.mul_zero,Int.mul_zero];omega
  have Wv:W≤b+vl (lf f) o p (aL (i,j)::v):=by
   by_cases hu:u=[]
   ·subst hu;simp only[List.nil_append]at hW;omega
   ·have cu:=mh (f:=f) (o:=o) (p:=p) (q:=aL (i,j)) (bs:=v) hu (i:Int) (j:Int);have Np:Wy (lf f) u:=hw.left hu;have hs:vK (lstP u) (aL (i,j)):=(List.pairwise_append.mp hw.up).2.2 _ (cQ hu) _ (XA);obtain⟨b2,Dn,LV⟩:=uU (o:=o) (p:=p) Np (i:=i) (j:=j) hs.1 hs.2;rw[e]at Dn;cases Dn;omega
  exact⟨as,aL (i,j),v,a,hr,k1,k2,by simp[aL],by simp[aL],Xx,XA⟩
theorem over_over(T:ed f o p W){x y:Int}{r r':Pr}(h:Over f o p W x y r)(h':Over f o p W x y r'):fY f o p W r r':=by
 obtain⟨as,q,bs,a,b,l1,l2,l3,l4,hW,hr⟩:=h;obtain⟨vM,q',UO,a',b',k1,k2,k3,k4,RH,Jd⟩:=h';have w1:BW f o p W (as++q::bs):=⟨a.app b ⟨Xx,Xx⟩,hW⟩
 have w2:BW f o p W (vM++q'::UO):=⟨a'.app b' ⟨Xx,Xx⟩,RH⟩
 by_cases hb:sq f o p as x y≤sq f o p vM x y
 ·have:=lr T a b l3 l4 hW a' k1 k2 hb;exact .tr (.way (b:=lstP vM) _ this (List.mem_append_right _ hr) (List.mem_append_left _ (cQ a'.ne))) (.way _ w2 (List.mem_append_left _ (cQ a'.ne)) (List.mem_append_right _ Jd))
 ·have:=lr T a' b' k3 k4 RH a l1 l2 Xs;exact .tr (.way (b:=lstP as) _ w1 (List.mem_append_right _ hr) (List.mem_append_left _ (cQ a.ne))) (.way _ this (List.mem_append_left _ (cQ a.ne)) (List.mem_append_right _ Jd))
theorem between(T:ed f o p W){u v:List Pr}{q r:Nat×Nat}(w:BW f o p W (u++aL q::aL r::v)):
  (∀x y:Nat,q.1<x→q.2<y→x≤r.1→y≤r.2→Bq f o p x y=some (sq f o p (u++[aL q]) x y))∧cW f o p q.1 q.2=some (vl (lf f) o p (u++[aL q]))∧0≤sq f o p (u++[aL q]) r.1 r.2:=by
 obtain⟨w,hW⟩:=w;have e:u++aL q::aL r::v=(u++[aL q])++aL r::v:=XA;rw[e]at w hW;have hl:Wy (lf f) (u++[aL q]):=w.left Xr;have hr:Wy (lf f) (aL r::v):=w.right Xr;have ls:lstP (u++[aL q])=aL q:=dN;have tm:vK (aL q) (aL r):=by
  have:=(List.pairwise_append.mp w.up).2.2 _ (cQ hl.ne) (aL r) (XA);rw[ls]at this;exact this
 refine⟨fun x y h1 h2 h3 h4=>?_,?_,?_⟩
 ·have c1:(lstP (u++[aL q])).1<(x:Int):=by rw[ls];simp[aL];omega
  have c2:(lstP (u++[aL q])).2<(y:Int):=by rw[ls];simp[aL];omega
  obtain⟨b,hb,hle⟩:=uU (o:=o) (p:=p) hl c1 c2;rw[hb]
  congr 1
  obtain⟨as,a,k1,k2,k3⟩:=uV hb;have wa:=a.app hr ⟨by simp[aL];omega,by simp[aL];omega⟩;have:=T _ wa;rw[mh a.ne (x:Int) (y:Int)]at this;rw[mh hl.ne (x:Int) (y:Int)]at hW;omega
 ·obtain⟨b,hb,hle⟩:=uW (o:=o) (p:=p) hl (i:=q.1) (j:=q.2) ls;rw[hb]
  congr 1
  obtain⟨as,a,k1,k2⟩:=lu hb;have wa:=a.app hr (by rw[k1];exact tm);have:=T _ wa;rw[YN _ _ _ a.ne,k1,show aL (q.1,q.2)=aL q from rfl]at this;rw[YN _ _ _ hl.ne,ls]at hW;omega
 ·have:=T _ hr;rw[mh hl.ne (r.1:Int) (r.2:Int)]at hW;unfold LU at hW;have e1:(aL r).1-(r.1:Int)=0:=by simp[aL]
  have e2:(aL r).2-(r.2:Int)=0:=by simp[aL]
  rw[e1,e2,Int.mul_zero,Int.mul_zero]at hW;omega
end
abbrev GS:=(Pr→Pr→Prop)×(Pr→Option Pr)
def wU(s:GS)(c r:Pr):GS:=
 match s.2 c with
 |some r0=>(oY s.1 r0 r,s.2)
 |none=>(s.1,fun x=>if x=c then some r else s.2 x)
section
variable(f:Nat→Nat→Option Int)(o p W:Int)
def Gq(i j:Nat)(s:GS)(r:Pr):GS:=(if cW f o p i j=Bq f o p (i+1) (j+1)then oY (Gp s.1 (aL (i,j))) (aL (i,j)) r else s.1,s.2)
def Je(i j:Nat)(s:GS)(r:Pr):GS:=(bg f o p i j).foldl (fun s c=>wU s c r) (Gq f o p i j s r)
def E4(i j:Nat)(s:GS):GS:=(if cW f o p i j=some W then Gp s.1 (aL (i,j))else s.1,s.2)
def Bu(i j:Nat)(s:GS):GS:=
 match s.2 (aL (i+1,j+1))with
 |some r=>Je f o p i j (E4 f o p W i j s) r
 |none=>E4 f o p W i j s
open Classical in
noncomputable def X4(i j:Nat)(s:GS):GS:=if (Bu f o p W i j s).1 (aL (i,j)) (aL (i,j))∧f6 (Bq f o p i j)=true then wU (Bu f o p W i j s) (aL (i,j)) (aL (i,j))else Bu f o p W i j s
structure gG(s:GS):Prop where
 sy:∀a b,s.1 a b→s.1 b a
 tr:∀a b c,s.1 a b→s.1 b c→s.1 a c
 hg:∀a b,s.1 a b→fY f o p W a b
 mr:∀c r,s.2 c=some r→s.1 r r∧∃i j:Nat,c=aL (i,j)∧Over f o p W (i:Int) (j:Int) r
end
structure Gw(s s':GS)(N:Pr→Prop)(M:Pr→Prop):Prop where
 e:∀a b,s.1 a b→s'.1 a b
 n:∀a,s'.1 a a→s.1 a a∨N a
 m:∀c r,s.2 c=some r→s'.2 c=some r
 k:∀c r,s'.2 c=some r→s.2 c=some r∨M c
theorem Gw.refl{s:GS}{N M:Pr→Prop}:Gw s s N M:=⟨fun _ _ h=>h,fun _ h=> .inl h,fun _ _ h=>h,fun _ _ h=> .inl h⟩
theorem Gw.trans{s s' uc:GS}{N M:Pr→Prop}(a:Gw s s' N M)(b:Gw s' uc N M):Gw s uc N M:=
 ⟨fun x y h=>b.e x y (a.e x y h),fun x h=>(b.n x h).elim (a.n x) .inr,fun c r h=>b.m c r (a.m c r h),fun c r h=>(b.k c r h).elim (a.k c r) .inr⟩
theorem Gw.wide{s s':GS}{N M N' M':Pr→Prop}(a:Gw s s' N M)(hN:∀x,N x→N' x)(hM:∀x,M x→M' x):Gw s s' N' M':=⟨a.e,fun x h=>(a.n x h).imp id (hN x),a.m,fun c r h=>(a.k c r h).imp id (hM c)⟩
section
variable{f:Nat→Nat→Option Int}{o p W:Int}{s:GS}
theorem gG.RJ(k:gG f o p W s){a b:Pr}(ha:s.1 a a)(hb:s.1 b b)(h:fY f o p W a b):gG f o p W (oY s.1 a b,s.2):=by
 have hc:∀c,s.1 c a∨s.1 c b→fY f o p W c a:=fun c h'=>h'.elim (k.hg c a) fun z=> .tr (k.hg c b z) h.symm
 refine⟨fun x y h=>?_,fun x y z h1 h2=>?_,fun x y h=>?_,fun c r h=>⟨.inl (k.mr c r h).1,(k.mr c r h).2⟩⟩
 ·exact h.imp (k.sy x y) fun h=>⟨h.2,h.1⟩
 ·rcases h1 with h1|⟨h1,F5⟩
  ·rcases h2 with h2|⟨h2,F6⟩
   ·exact .inl (k.tr _ _ _ h1 h2)
   ·exact .inr ⟨h2.imp (k.tr _ _ _ h1) (k.tr _ _ _ h1),F6⟩
  ·rcases h2 with h2|⟨h2,F6⟩
   ·exact .inr ⟨h1,F5.imp (k.tr _ _ _ (k.sy _ _ h2)) (k.tr _ _ _ (k.sy _ _ h2))⟩
   ·exact .inr ⟨h1,F6⟩
 ·rcases h with h|⟨h1,h2⟩
  ·exact k.hg x y h
  ·exact .tr (hc x h1) (hc y h2).symm
theorem gG.take(k:gG f o p W s){a:Pr}(h:fY f o p W a a):gG f o p W (Gp s.1 a,s.2):=by
 refine⟨fun x y h=>?_,fun x y z h1 h2=>?_,fun x y h'=>?_,fun c r h=>⟨.inl (k.mr c r h).1,(k.mr c r h).2⟩⟩
 ·exact h.imp (k.sy x y) fun h=>⟨h.2,h.1⟩
 ·rcases h1 with h1|⟨h1,F5⟩
  ·rcases h2 with h2|⟨h2,F6⟩
   ·exact .inl (k.tr _ _ _ h1 h2)
   ·subst h2 F6;exact .inl h1
  ·subst h1 F5;exact h2
 ·rcases h' with h'|⟨h1,h2⟩
  ·exact k.hg x y h'
  ·subst h1 h2;exact h
theorem Dp(sy:∀a b,s.1 a b→s.1 b a)(tr:∀a b c,s.1 a b→s.1 b c→s.1 a c){a b:Pr}:Gw s (oY s.1 a b,s.2) (fun _=>False) (fun _=>False):=by
 refine⟨fun _ _ h=> .inl h,fun x h=> .inl ?_,fun _ _ h=>h,fun _ _ h=> .inl h⟩;rcases h with h|⟨h,_⟩
 ·exact h
 ·exact h.elim (fun z=>tr _ _ _ z (sy _ _ z)) fun z=>tr _ _ _ z (sy _ _ z)
theorem gG.mark(T:ed f o p W)(k:gG f o p W s){i j:Nat}{r:Pr}(hr:s.1 r r)(ov:Over f o p W (i:Int) (j:Int) r):gG f o p W (wU s (aL (i,j)) r):=by
 unfold wU;cases e:s.2 (aL (i,j))with
 |some r0=>
  obtain⟨h1,i2,j2,h2,h3⟩:=k.mr _ _ e;have h2:(i:Int)=i2∧(j:Int)=j2:=by simpa[aL]using h2
  rw[←h2.1,←h2.2]at h3;exact k.RJ h1 hr (over_over T h3 ov)
 |none=>
  refine⟨k.sy,k.tr,k.hg,fun c r' h=>?_⟩;have h:(if c=aL (i,j)then some r else s.2 c)=some r':=h;by_cases e2:c=aL (i,j)
  ·rw[Xo e2]at h;cases h;exact⟨hr,i,j,e2,ov⟩
  ·rw[Xk e2]at h;exact k.mr c r' h
theorem Gr(k:gG f o p W s){c r:Pr}:Gw s (wU s c r) (fun _=>False) (·=c):=by
 unfold wU;cases e:s.2 c with
 |some r0=>exact(Dp k.sy k.tr).wide (fun _ h=>h) fun _ h=>h.elim
 |none=>
  refine⟨fun _ _ h=>h,fun _ h=> .inl h,fun c' r' h=>?_,fun c' r' h=>?_⟩
  ·show(if c'=c then some r else s.2 c')=some r';rw[Xk (fun z=>by rw[z,e]at h;cases h)];exact h
  ·have h:(if c'=c then some r else s.2 c')=some r':=h;by_cases e2:c'=c
   ·exact .inr e2
   ·rw[Xk e2]at h;exact .inl h
theorem Dq(k:gG f o p W s){c r:Pr}(hr:s.1 r r):∃r',(wU s c r).2 c=some r'∧(wU s c r).1 r r':=by
 unfold wU;cases e:s.2 c with
 |some r0=>exact⟨r0,e, .inr ⟨.inr hr, .inl (k.mr _ _ e).1⟩⟩
 |none=>exact⟨r,XA,hr⟩
theorem qZ(T:ed f o p W){r:Pr}:∀(cs:List Pr)(s:GS),gG f o p W s→s.1 r r→(∀c∈cs,∃i j:Nat,c=aL (i,j)∧Over f o p W (i:Int) (j:Int) r)→
  gG f o p W (cs.foldl (fun s c=>wU s c r) s)∧Gw s (cs.foldl (fun s c=>wU s c r) s) (fun _=>False) (·∈cs)∧∀c∈cs,∃r',(cs.foldl (fun s c=>wU s c r) s).2 c=some r'∧(cs.foldl (fun s c=>wU s c r) s).1 r r'
 |[],s,k,_,_=>⟨k, .refl,fun c h=>by cases h⟩
 |c::cs,s,k,hr,h=>by
  obtain⟨i,j,rfl,ov⟩:=h c (XA);have k1:=k.mark T hr ov;have g1:=Gr k (c:=aL (i,j)) (r:=r);obtain⟨r',m1,m2⟩:=Dq k (c:=aL (i,j)) hr;obtain⟨a1,a2,a3⟩:=qZ T cs _ k1 (g1.e _ _ hr) fun c hc=>h c (by simp[hc])
  refine⟨a1,(g1.wide (fun _ h=>h) fun x hx=>?_).trans (a2.wide (fun _ h=>h) fun x hx=>?_),fun c hc=>?_⟩
  ·show x∈_::_;rw[hx];simp
  ·exact List.mem_cons_of_mem _ hx
  ·rcases List.mem_cons.mp hc with rfl|hc
   ·exact⟨r',a2.m _ _ m1,a2.e _ _ m2⟩
   ·exact a3 c hc
theorem pT(T:ed f o p W){i j:Nat}{r:Pr}(h:Over f o p W ((i+1:Nat):Int) ((j+1:Nat):Int) r):∀c∈bg f o p i j,∃x y:Nat,c=aL (x,y)∧Over f o p W (x:Int) (y:Int) r:=by
 intro c hc;unfold bg at hc;rcases List.mem_append.mp hc with hc|hc
 ·split at hc
  ·rename_i e
   have:c=aL (i,j+1):=by simpa[aL]using hc
   refine⟨i,j+1,this,pS T h Xs (Xx) ?_ e⟩;have e1:((i+1:Nat):Int)-(i:Int)=1:=Xx;have e2:((j+1:Nat):Int)-((j+1:Nat):Int)=0:=Xx;rw[e1,e2];omega
  ·cases hc
 ·split at hc
  ·rename_i e
   have:c=aL (i+1,j):=by simpa[aL]using hc
   refine⟨i+1,j,this,pS T h Xs (Xx) ?_ e⟩;have e1:((i+1:Nat):Int)-((i+1:Nat):Int)=0:=Xx;have e2:((j+1:Nat):Int)-(j:Int)=1:=Xx;rw[e1,e2];omega
  ·cases hc
theorem Dr(T:ed f o p W)(k:gG f o p W s){i j:Nat}{r:Pr}(hr:s.1 r r)(ov:Over f o p W ((i+1:Nat):Int) ((j+1:Nat):Int) r):
  gG f o p W (Gq f o p i j s r)∧Gw s (Gq f o p i j s r) (·=aL (i,j)) (·∈bg f o p i j)∧(cW f o p i j=Bq f o p (i+1) (j+1)→(Gq f o p i j s r).1 (aL (i,j)) r):=by
 unfold Gq;by_cases e:cW f o p i j=Bq f o p (i+1) (j+1)
 ·rw[Xo e];have h:=AZ T ov e;have k1:=k.take h.left;have k2:=k1.RJ (a:=aL (i,j)) (b:=r) (.inr ⟨rfl,rfl⟩) (.inl hr) h;refine⟨k2,⟨fun a b h=> .inl (.inl h),fun a h=>?_,fun _ _ h=>h,fun _ _ h=> .inl h⟩,fun _=> .inr ⟨.inl (.inr ⟨rfl,rfl⟩), .inr (.inl hr)⟩⟩;rcases(Dp (s:=(Gp s.1 (aL (i,j)),s.2)) k1.sy k1.tr).n a h with h|h
  ·exact h.imp id And.left
  ·exact h.elim
 ·rw[Xk e];exact⟨⟨k.sy,k.tr,k.hg,k.mr⟩, .refl,fun z=>absurd z e⟩
theorem LW(T:ed f o p W)(k:gG f o p W s){i j:Nat}{r:Pr}(hr:s.1 r r)(ov:Over f o p W ((i+1:Nat):Int) ((j+1:Nat):Int) r):
  gG f o p W (Je f o p i j s r)∧Gw s (Je f o p i j s r) (·=aL (i,j)) (·∈bg f o p i j)∧(cW f o p i j=Bq f o p (i+1) (j+1)→(Je f o p i j s r).1 (aL (i,j)) r)∧∀c∈bg f o p i j,∃r',(Je f o p i j s r).2 c=some r'∧(Je f o p i j s r).1 r r':=by
 obtain⟨b1,b2,b3⟩:=Dr T k hr ov;obtain⟨a1,a2,a3⟩:=qZ T (bg f o p i j) _ b1 (b2.e _ _ hr) (pT T ov);exact⟨a1,b2.trans (a2.wide (fun _ h=>h.elim) fun _ h=>h),fun e=>a2.e _ _ (b3 e),a3⟩
theorem Ds(k:gG f o p W s)(i j:Nat):gG f o p W (E4 f o p W i j s)∧Gw s (E4 f o p W i j s) (·=aL (i,j)) (fun _=>False)∧(cW f o p i j=some W→(E4 f o p W i j s).1 (aL (i,j)) (aL (i,j))):=by
 unfold E4;by_cases e:cW f o p i j=some W
 ·rw[Xo e];exact⟨k.take (Dm e),⟨fun _ _ h=> .inl h,fun _ h=>h.imp id And.left,fun _ _ h=>h,fun _ _ h=> .inl h⟩,fun _=> .inr ⟨rfl,rfl⟩⟩
 ·rw[Xk e];exact⟨⟨k.sy,k.tr,k.hg,k.mr⟩, .refl,fun z=>absurd z e⟩
def Jf(f:Nat→Nat→Option Int)(o p:Int)(i j:Nat)(c:Pr):Prop:=c∈bg f o p i j∨c=aL (i,j)
theorem Dt(T:ed f o p W)(k:gG f o p W s)(i j:Nat):gG f o p W (Bu f o p W i j s)∧Gw s (Bu f o p W i j s) (·=aL (i,j)) (Jf f o p i j)∧(cW f o p i j=some W→(Bu f o p W i j s).1 (aL (i,j)) (aL (i,j)))∧∀r,s.2 (aL (i+1,j+1))=some r→
  (cW f o p i j=Bq f o p (i+1) (j+1)→(Bu f o p W i j s).1 (aL (i,j)) r)∧∀c∈bg f o p i j,∃r',(Bu f o p W i j s).2 c=some r'∧(Bu f o p W i j s).1 r r':=by
 obtain⟨k1,g1,e1⟩:=Ds k i j;unfold Bu;cases e:s.2 (aL (i+1,j+1))with
 |none=>exact⟨k1,g1.wide (fun _ h=>h) fun _ h=>h.elim,e1,fun r h=>by cases h⟩
 |some r=>
  obtain⟨h1,i2,j2,h2,h3⟩:=k.mr _ _ e;have h2:((i+1:Nat):Int)=i2∧((j+1:Nat):Int)=j2:=by simpa[aL]using h2
  rw[←h2.1,←h2.2]at h3;obtain⟨a1,a2,a3,a4⟩:=LW T k1 (g1.e _ _ h1) h3;refine⟨a1,(g1.wide (fun _ h=>h) fun _ h=>h.elim).trans (a2.wide (fun _ h=>h) fun _ h=> .inl h),fun z=>a2.e _ _ (e1 z),fun r' h=>?_⟩;cases h;exact⟨a3,a4⟩
theorem LX(T:ed f o p W)(k:gG f o p W s)(i j:Nat):gG f o p W (X4 f o p W i j s)∧Gw s (X4 f o p W i j s) (·=aL (i,j)) (Jf f o p i j)∧(cW f o p i j=some W→(X4 f o p W i j s).1 (aL (i,j)) (aL (i,j)))∧(∀r,s.2 (aL (i+1,j+1))=some r→
  (cW f o p i j=Bq f o p (i+1) (j+1)→(X4 f o p W i j s).1 (aL (i,j)) r)∧∀c∈bg f o p i j,∃r',(X4 f o p W i j s).2 c=some r'∧(X4 f o p W i j s).1 r r')∧
  ((X4 f o p W i j s).1 (aL (i,j)) (aL (i,j))→f6 (Bq f o p i j)=true→∃r,(X4 f o p W i j s).2 (aL (i,j))=some r∧(X4 f o p W i j s).1 (aL (i,j)) r):=by
 obtain⟨k1,g1,e1,o1⟩:=Dt T k i j;unfold X4;split
 ·rename_i h
  have k2:=k1.mark T h.1 (E3 T (k1.hg _ _ h.1) h.2);have g2:=Gr k1 (c:=aL (i,j)) (r:=aL (i,j));refine⟨k2,g1.trans (g2.wide (fun _ h=>h.elim) fun _ h=> .inr h),fun z=>g2.e _ _ (e1 z),fun r hr=>?_,fun _ _=>Dq k1 h.1⟩;obtain⟨a1,a2⟩:=o1 r hr;refine⟨fun z=>g2.e _ _ (a1 z),fun c hc=>?_⟩;obtain⟨r',b1,b2⟩:=a2 c hc;exact⟨r',g2.m _ _ b1,g2.e _ _ b2⟩
 ·rename_i h
  exact⟨k1,g1,e1,o1,fun h1 h2=>absurd ⟨h1,h2⟩ h⟩
end
structure Vd(f:Nat→Nat→Option Int)(o p W:Int)(V:Nat→Nat→Prop)(s:GS):Prop where
 ok:gG f o p W s
 UP:∀a,s.1 a a→∃i j:Nat,a=aL (i,j)∧V i j
 en:∀i j,V i j→cW f o p i j=some W→s.1 (aL (i,j)) (aL (i,j))
 on:∀i j,V i j→s.1 (aL (i,j)) (aL (i,j))→f6 (Bq f o p i j)=true→∃r,s.2 (aL (i,j))=some r∧s.1 (aL (i,j)) r
 ov:∀i j r,V i j→s.2 (aL (i+1,j+1))=some r→(cW f o p i j=Bq f o p (i+1) (j+1)→s.1 (aL (i,j)) r)∧∀c∈bg f o p i j,∃r',s.2 c=some r'∧s.1 r r'
theorem gX{a b c d:Nat}(h:aL (a,b)=aL (c,d)):a=c∧b=d:=by
 have h:(a:Int)=c∧(b:Int)=d:=by simpa[aL]using h
 omega
theorem Du{f:Nat→Nat→Option Int}{o p:Int}{i j a b:Nat}(h:Jf f o p i j (aL (a+1,b+1))):(a+1=i∧b+1=j)∨(a+1=i∧b=j)∨(a=i∧b+1=j):=by
 rcases h with h|h
 ·unfold bg at h;rcases List.mem_append.mp h with h|h
  ·split at h
   ·have:aL (a+1,b+1)=aL (i,j+1):=by simpa[aL]using h
    have:=gX this;omega
   ·cases h
  ·split at h
   ·have:aL (a+1,b+1)=aL (i+1,j):=by simpa[aL]using h
    have:=gX this;omega
   ·cases h
 ·have:=gX h;omega
def Vb(n m i j:Nat)(a b:Nat):Prop:=a<n∧b<m∧(i<a∨(i=a∧j≤b))
theorem Vd.start(f:Nat→Nat→Option Int)(o p W:Int)(n m:Nat):Vd f o p W (Vb n m n 0) (fun _ _=>False,fun _=>none):=by
 have no:∀a b,¬Vb n m n 0 a b:=fun a b ⟨h1,_,h2⟩=>Xx
 exact⟨⟨fun _ _ h=>h.elim,fun _ _ _ h=>h.elim,fun _ _ h=>h.elim,fun _ _ h=>(by cases h)⟩,fun _ h=>h.elim,fun i j h=>absurd h (no i j),fun i j h=>absurd h (no i j),fun i j r h=>absurd h (no i j)⟩
theorem Vd.turn{f:Nat→Nat→Option Int}{o p W:Int}{n m i:Nat}{s:GS}(v:Vd f o p W (Vb n m (i+1) 0) s):Vd f o p W (Vb n m i m) s:=by
 have e:Vb n m (i+1) 0=Vb n m i m:=by
  funext a b
  simp only[Vb,eq_iff_iff];omega
 rw[←e];exact v
theorem Vd.next{f:Nat→Nat→Option Int}{o p W:Int}{n m i j:Nat}{s:GS}(T:ed f o p W)(hi:i<n)(hj:j<m)(v:Vd f o p W (Vb n m i (j+1)) s):Vd f o p W (Vb n m i j) (X4 f o p W i j s):=by
 obtain⟨k,g,e,ov,on⟩:=LX T v.ok i j;have cut:∀a b,Vb n m i j a b→(a=i∧b=j)∨Vb n m i (j+1) a b:=fun a b h=>by
  unfold Vb at h⊢
  lia
 have old:∀a b r,Vb n m i j a b→(X4 f o p W i j s).2 (aL (a+1,b+1))=some r→s.2 (aL (a+1,b+1))=some r:=fun a b r h hr=>by
  rcases g.k _ _ hr with z|z
  ·exact z
  ·have:=Du z;unfold Vb at h
   lia
 refine⟨k,fun a ha=>?_,fun a b h he=>?_,fun a b h h1 h2=>?_,fun a b r h hr=>?_⟩
 ·rcases g.n a ha with z|z
  ·obtain⟨x,y,h1,h2⟩:=v.UP a z;exact⟨x,y,h1,by unfold Vb at h2⊢;lia⟩
  ·exact⟨i,j,z,by unfold Vb;lia⟩
 ·rcases cut a b h with⟨rfl,rfl⟩|h'
  ·exact e he
  ·exact g.e _ _ (v.en a b h' he)
 ·rcases cut a b h with⟨rfl,rfl⟩|h'
  ·exact on h1 h2
  ·have hs:s.1 (aL (a,b)) (aL (a,b)):=by
    rcases g.n _ h1 with z|z
    ·exact z
    ·have:=gX z;unfold Vb at h'
     lia
   obtain⟨r,z1,z2⟩:=v.on a b h' hs h2;exact⟨r,g.m _ _ z1,g.e _ _ z2⟩
 ·have Jd:=old a b r h hr;rcases cut a b h with⟨rfl,rfl⟩|h'
  ·exact ov r Jd
  ·obtain⟨z1,z2⟩:=v.ov a b r h' Jd;refine⟨fun z=>g.e _ _ (z1 z),fun c hc=>?_⟩;obtain⟨r',y1,y2⟩:=z2 c hc;exact⟨r',g.m _ _ y1,g.e _ _ y2⟩
theorem i9{f:Nat→Nat→Option Int}{n m:Nat}(t:Bo f n m){ps:List Pr}(w:Wy (lf f) ps){a:Pr}(h:a∈ps):∃i j:Nat,a=aL (i,j)∧i<n∧j<m:=by
 have hs:=w.ok a h;obtain⟨i,j,rfl⟩:=Z5 hs;rw[oU]at hs;obtain⟨h1,h2⟩:=t i j hs;exact⟨i,j,rfl,h1,h2⟩
theorem Vd.step{f:Nat→Nat→Option Int}{o p W:Int}{n m:Nat}{s:GS}(T:ed f o p W)(v:Vd f o p W (Vb n m 0 0) s){us vs:List Pr}{q r:Nat×Nat}(w:BW f o p W (us++aL q::aL r::vs))(hr:r.1<n)(X1:r.2<m)(hq:q.1<r.1)(LY:q.2<r.2)(hE:s.1 (aL r) (aL r)):s.1 (aL q) (aL r):=by
 obtain⟨b1,b2,b3⟩:=between T w;have ok:=v.ok;have V0:∀a b,a<n→b<m→Vb n m 0 0 a b:=fun a b h1 h2=>⟨h1,h2,by lia⟩
 have top:=b1 r.1 r.2 hq LY (Nat.le_refl _) (Nat.le_refl _);obtain⟨r0,m0,e0⟩:=v.on r.1 r.2 (V0 _ _ hr X1) hE (by rw[top];simpa[f6]using b3);have UQ:∀x y:Nat,sq f o p (us++[aL q]) (x:Int) (y:Int)-o=sq f o p (us++[aL q]) ((x+1:Nat):Int) (y:Int):=fun x y=>by
  unfold sq;have e1:((x+1:Nat):Int)-1-(lstP (us++[aL q])).1=((x:Int)-1-(lstP (us++[aL q])).1)+1:=by lia
  rw[e1,Int.mul_add];lia
 have UR:∀x y:Nat,sq f o p (us++[aL q]) (x:Int) (y:Int)-p=sq f o p (us++[aL q]) (x:Int) ((y+1:Nat):Int):=fun x y=>by
  unfold sq;have e1:((y+1:Nat):Int)-1-(lstP (us++[aL q])).2=((y:Int)-1-(lstP (us++[aL q])).2)+1:=by lia
  rw[e1,Int.mul_add];lia
 have go:∀d x y:Nat,(r.1-x)+(r.2-y)=d→q.1<x→q.2<y→x≤r.1→y≤r.2→∃r',s.2 (aL (x,y))=some r'∧s.1 (aL r) r':=by
  intro d
  induction d with
  |zero=>
   intro x y hd h1 h2 h3 h4;have:x=r.1:=by lia
   have:y=r.2:=by lia
   subst x y;exact⟨r0,m0,e0⟩
  |succ d ih=>
   intro x y hd h1 h2 h3 h4;by_cases hx:x<r.1
   ·obtain⟨r1,m1,e1⟩:=ih (x+1) y Xv (by lia) h2 Xv h4;obtain⟨y,rfl⟩:∃y',y=y'+1:=⟨y-1,by lia⟩
    obtain⟨_,z⟩:=v.ov x y r1 (V0 _ _ (by lia) (by lia)) m1;have hc:aL (x,y+1)∈bg f o p x y:=by
     unfold bg;refine List.mem_append_left _ ?_;rw[if_pos]
     ·simp[aL]
     ·rw[b1 x (y+1) h1 h2 h3 h4,b1 (x+1) (y+1) (by lia) h2 Xv h4];simp only[bq];rw[UQ]
    obtain⟨r2,m2,e2⟩:=z _ hc;exact⟨r2,m2,ok.tr _ _ _ e1 e2⟩
   ·obtain⟨r1,m1,e1⟩:=ih x (y+1) (by lia) h1 Xv h3 Xv;obtain⟨x,rfl⟩:∃x',x=x'+1:=⟨x-1,by lia⟩
    obtain⟨_,z⟩:=v.ov x y r1 (V0 _ _ (by lia) (by lia)) m1;have hc:aL (x+1,y)∈bg f o p x y:=by
     unfold bg;refine List.mem_append_right _ ?_;rw[if_pos]
     ·simp[aL]
     ·rw[b1 (x+1) y h1 h2 h3 h4,b1 (x+1) (y+1) h1 Xv h3 Xv];simp only[bq];rw[UR]
    obtain⟨r2,m2,e2⟩:=z _ hc;exact⟨r2,m2,ok.tr _ _ _ e1 e2⟩
 obtain⟨r1,m1,e1⟩:=go _ (q.1+1) (q.2+1) rfl (by lia) (by lia) (by lia) (by lia);obtain⟨z,_⟩:=v.ov q.1 q.2 r1 (V0 _ _ (by lia) (by lia)) m1;have:=z (by
  rw[b2,b1 (q.1+1) (q.2+1) (by lia) (by lia) (by lia) (by lia)]
  congr 1
  unfold sq;rw[dN];have z1:((q.1+1:Nat):Int)-1-(aL q).1=0:=by show((q.1+1:Nat):Int)-1-(q.1:Int)=0;lia
  have z2:((q.2+1:Nat):Int)-1-(aL q).2=0:=by show((q.2+1:Nat):Int)-1-(q.2:Int)=0;lia
  rw[z1,z2,Int.mul_zero,Int.mul_zero];lia)
 exact ok.tr _ _ _ this (ok.sy _ _ e1)
theorem Vd.all{f:Nat→Nat→Option Int}{o p W:Int}{n m:Nat}{s:GS}(T:ed f o p W)(t:Bo f n m)(v:Vd f o p W (Vb n m 0 0) s){ws:List Pr}(w:BW f o p W ws):
  ∀(vs us:List Pr),ws=us++vs→vs≠[]→∀a∈vs,s.1 a (lI vs)
 |[],_,_,h=>absurd rfl h
 |[l],us,e,_=>fun a ha=>by
  have ha:a=l:=by simpa using ha
  subst ha;show s.1 a a;obtain⟨i,j,rfl,hi,hj⟩:=i9 t w.1 (a:=a) (by rw[e];simp);have hl:lstP ws=aL (i,j):=by rw[e];exact dN
  obtain⟨b,hb,hle⟩:=uW (o:=o) (p:=p) w.1 hl;obtain⟨as,a1,a2,a3⟩:=lu hb;have:=T _ a1;have hW:=w.2;exact v.en i j ⟨hi,hj,Xx⟩ (by rw[hb];congr 1;omega)
 |q::r::vs,us,e,_=>fun a ha=>by
  have ih:=Vd.all T t v w (r::vs) (us++[q]) (by rw[e];simp) (XA);have JW:s.1 r r:=ih r Xr;have ok:=v.ok;obtain⟨i,j,hq,hi,hj⟩:=i9 t w.1 (a:=q) (by rw[e];simp);obtain⟨x,y,hr,hx,hy⟩:=i9 t w.1 (a:=r) (by rw[e];simp);have tm:vK q r:=by
   have:=w.1.up;rw[e]at this;exact(List.pairwise_cons.mp (List.pairwise_append.mp this).2.1).1 r Xr
  rw[hq,hr]at tm;have h1:(i:Int)<x:=tm.1;have h2:(j:Int)<y:=tm.2;rw[e,hq,hr]at w;have key:=v.step T w (q:=(i,j)) (r:=(x,y)) hx hy (by show i<x;omega) (by show j<y;omega) (by rw[←hr];exact JW);rw[←hq,←hr]at key;show s.1 a q;rcases List.mem_cons.mp ha with rfl|ha
  ·exact ok.tr _ _ _ key (ok.sy _ _ key)
  ·exact ok.tr _ _ _ (ih a ha) (ok.sy _ _ key)
theorem Vd.PR{f:Nat→Nat→Option Int}{o p W:Int}{n m:Nat}{s:GS}(T:ed f o p W)(t:Bo f n m)(v:Vd f o p W (Vb n m 0 0) s)(a b:Pr):s.1 a b↔fY f o p W a b:=by
 refine⟨v.ok.hg a b,fun h=>?_⟩
 induction h with
 |way ps w h1 h2=>
  have k:=Vd.all T t v w ps [] rfl w.1.ne;exact v.ok.tr _ _ _ (k _ h1) (v.ok.sy _ _ (k _ h2))
 |tr _ _ i1 i2=>exact v.ok.tr _ _ _ i1 i2
theorem Told.iff{E E':Pr→Pr→Prop}{gs:List (List Pr)}(t:Told E gs)(h:∀a b,E a b↔E' a b):Told E' gs:=
 ⟨t.qT,t.ne,fun ps hp a ha b=>(t.cls ps hp a ha b).trans (h a b),fun a ha=>t.all a ((h a a).mpr ha),t.apart⟩
def NT(H:Hp)(a:Addr):Prop:=∃o,H a=some o∧∀v,o≠ .tup v
theorem NT.same{H H':Hp}{a:Addr}(h:NT H a)(s:au H H'):NT H' a:=let ⟨o,h1,h2⟩:=h;⟨o,s _ _ h1,h2⟩
theorem ny.cw{S S':Addr→Prop}{H H':Hp}(u:ny S H S' H')(h:∀a,S a→NT H a):eV H H':=fun t v e=>u.keep t _ (fun z=>by
 obtain⟨o,h1,h2⟩:=h t z;rw[e]at h1;cases h1;exact h2 v rfl) e
theorem ny.out{S S':Addr→Prop}{H H':Hp}(u:ny S H S' H'){a:Addr}{o:HO}(h:¬S a)(e:H a=some o):¬S' a:=fun z=>by
 rcases u.grow a z with z|z
 ·exact h z
 ·rw[e]at z;cases z
theorem i8.nt{H:Hp}{C g:Addr}{S:Addr→Prop}{E:Pr→Pr→Prop}{B:Nat}(G:i8 H C g S E B):i8 H C g (fun a=>S a∧NT H a) E B:=by
 obtain⟨dg,dl,dm,kl,km,ld,mm,a1,a2,D,a4⟩:=G;refine⟨dg,dl,dm,kl,km,ld,mm,a1,fun z=>a2 z.1,⟨D.hl,D.hm,⟨D.sl,_,D.hl,fun v=>(XA)⟩,⟨D.sm,_,D.hm,fun v=>(XA)⟩,D.ne,D.lv,fun p=>?_,D.inj,D.key,D.XH,D.ms,D.ml,D.self⟩,a4⟩;have:=D.mv p;cases e:mm p with
 |none=>rw[e]at this;exact this
 |some ms=>
  rw[e]at this;obtain⟨a,us,h1,h2,h3,h4⟩:=this;exact⟨a,us,h1,h2,h3,h4,_,h2,fun v=>(XA)⟩
structure Gs(K:W.Frag)(C:Addr):Prop where
 cl:ua K C
 q_:bN K C "trails"
 worth:bN K C "worth"
 groups:bN K C "groups"
 marks:bN K C "marks"
def i_(tr:Addr)(W:Int)(g dk:Addr):List (Str×V):=[("trails", .ref tr),("worth", .int W),("groups", .ref g),("marks", .ref dk)]
theorem lz(a:Addr)(W:Int)(b c:Addr):(i_ a W b c).lookup ("trails":Str)=some (V.ref a):=by kernel_rfl
theorem Dv(a:Addr)(W:Int)(b c:Addr):(i_ a W b c).lookup ("worth":Str)=some (V.int W):=by kernel_rfl
theorem hV(a:Addr)(W:Int)(b c:Addr):(i_ a W b c).lookup ("groups":Str)=some (V.ref b):=by kernel_rfl
theorem kC(a:Addr)(W:Int)(b c:Addr):(i_ a W b c).lookup ("marks":Str)=some (V.ref c):=by kernel_rfl
theorem Yi(a:Addr)(W:Int)(b c:Addr):(i_ a W b c).lookup ("mark":Str)=none:=by kernel_rfl
theorem E5(a:Addr)(W:Int)(b c:Addr):(i_ a W b c).lookup ("go_over":Str)=none:=by kernel_rfl
theorem Dx(a:Addr)(W:Int)(b c:Addr):(i_ a W b c).lookup ("visit":Str)=none:=by kernel_rfl
theorem Jg(a:Addr)(W:Int)(b c:Addr):bf "marks" (.ref c) (bf "groups" (.ref b) (bf "worth" (.int W) (bf "trails" (.ref a) [])))=i_ a W b c:=by kernel_rfl
structure Jh(H:Hp)(C CG x tr:Addr)(W:Int)(S:Addr→Prop)(s:GS)(B M:Nat)(dx g dk:Addr)(km:List (List Key×V))(S1:Addr→Prop):Prop where
 ob:H x=some (.ins C dx (i_ tr W g dk))
 gr:i8 H CG g S1 s.1 B
 hk:H dk=some (.dT km)
 mv:∀c,Jb H (bj km (aZ c)) (s.2 c)
 len:km.length≤M
 sS:∀a,S a↔S1 a∨a=dk
 XH:¬S1 dk
 nx:¬S x
 ng:¬S g
 nt:∀a,S a→NT H a
def gH(H:Hp)(C CG x tr:Addr)(W:Int)(S:Addr→Prop)(s:GS)(B M:Nat):Prop:=∃dx g dk km S1,Jh H C CG x tr W S s B M dx g dk km S1
theorem gH.nt{H:Hp}{C CG x tr:Addr}{W:Int}{S:Addr→Prop}{s:GS}{B M:Nat}(G:gH H C CG x tr W S s B M):∀a,S a→NT H a:=let ⟨_,_,_,_,_,D⟩:=G;D.nt
theorem gH.same{H H':Hp}{C CG x tr:Addr}{W:Int}{S:Addr→Prop}{s:GS}{B M:Nat}(G:gH H C CG x tr W S s B M)(t:au H H'):gH H' C CG x tr W S s B M:=by
 obtain⟨dx,g,dk,km,S1,D⟩:=G;exact⟨dx,g,dk,km,S1,t _ _ D.ob,D.gr.same t,t _ _ D.hk,fun c=>(D.mv c).cw (eV.same t),D.len,D.sS,D.XH,D.nx,D.ng,fun a h=>(D.nt a h).same t⟩
theorem gH.out{H:Hp}{C CG x tr:Addr}{W:Int}{S:Addr→Prop}{s:GS}{B M:Nat}(G:gH H C CG x tr W S s B M){a:Addr}(h:H a=none):¬S a:=fun z=>by
 obtain⟨o,e,_⟩:=G.nt a z;rw[h]at e;cases e
theorem gH.cast{H:Hp}{C CG x tr:Addr}{W:Int}{S:Addr→Prop}{s s':GS}{B M B' M':Nat}(G:gH H C CG x tr W S s B M)(h:s=s')(hB:B≤B')(hM:M≤M'):gH H C CG x tr W S s' B' M':=by
 subst h;obtain⟨dx,g,dk,km,S1,D⟩:=G;exact⟨dx,g,dk,km,S1,D.ob,D.gr.iff (fun _ _=>Iff.rfl) hB,D.hk,D.mv,by have:=D.len;omega,D.sS,D.XH,D.nx,D.ng,D.nt⟩
section
variable{H H':Hp}{C CG x tr dx g dk:Addr}{W:Int}{S S1 Ji:Addr→Prop}{s:GS}{B M B':Nat}{km:List (List Key×V)}
theorem Jh.Nq(D:Jh H C CG x tr W S s B M dx g dk km S1){E':Pr→Pr→Prop}(u:ny S1 H Ji H')(G:i8 H' CG g Ji E' B'):∃S' S2,ny S H S' H'∧Jh H' C CG x tr W S' (E',s.2) B' M dx g dk km S2:=by
 have s1:∀a,S1 a→S a:=fun a h=>(D.sS a).mpr (.inl h)
 have US:∀a,S1 a→NT H a:=fun a h=>D.nt a (s1 a h)
 have T:=u.cw US;have Ct:=u.keep dk _ D.XH D.hk;obtain⟨dg,dl,dm,kl,E6,ld,mm,og,_⟩:=id D.gr;have gone:∀{a o},¬S a→H a=some o→a≠dk→¬((Ji a∧NT H' a)∨a=dk):=fun{a o} h1 h2 h3 z=>by
  rcases z with z|z
  ·exact u.out (fun y=>h1 (s1 _ y)) h2 z.1
  ·exact h3 z
 have X_:S dk:=(D.sS dk).mpr (.inr rfl);refine⟨fun a=>(Ji a∧NT H' a)∨a=dk,fun a=>Ji a∧NT H' a,⟨fun a h=>?_,fun a o h e=>u.keep a o (fun z=>h (s1 a z)) e⟩,⟨u.keep x _ (fun z=>D.nx (s1 _ z)) D.ob,G.nt,Ct,fun c=>(D.mv c).cw T,D.len,fun a=>Iff.rfl,fun z=>u.out D.XH D.hk z.1,gone D.nx D.ob (fun z=>D.nx (by rw[z];exact X_)),gone D.ng og (fun z=>D.ng (by rw[z];exact X_)),fun a h=>?_⟩⟩
 ·rcases h with h|h
  ·exact(u.grow a h.1).imp (s1 a) id
  ·exact .inl (by rw[h];exact X_)
 ·rcases h with h|h
  ·exact h.2
  ·exact⟨_,by rw[h];exact Ct,fun v=>(XA)⟩
theorem Jh.put(D:Jh H C CG x tr W S s B M dx g dk km S1){c r:Pr}{t:Addr}(ht:H t=some (.tup (ke r))):ny S H S (upd H dk (.dT (putK km (aZ c) (.ref t))))∧Jh (upd H dk (.dT (putK km (aZ c) (.ref t)))) C CG x tr W S (s.1,fun y=>if y=c then some r else s.2 y) B (M+1) dx g dk (putK km (aZ c) (.ref t)) S1:=by
 have X_:S dk:=(D.sS dk).mpr (.inr rfl);have nx:x≠dk:=fun z=>D.nx (by rw[z];exact X_)
 have ng:g≠dk:=fun z=>D.ng (by rw[z];exact X_)
 have T:eV H (upd H dk (.dT (putK km (aZ c) (.ref t)))):=fun b v hb=>by
  rw[af (fun z=>by rw[z,D.hk]at hb;cases hb)];exact hb
 refine⟨.put X_,⟨by rw[af nx];exact D.ob,D.gr.keep (fun a o h e=>by rw[af (fun z=>D.XH (by rw[←z];exact h))];exact e) T (fun o e=>by rw[af ng];exact e),ae,fun y=>?_,Nat.le_trans (fh _ _ _) (by have:=D.len;omega),D.sS,D.XH,D.nx,D.ng,fun a h=>?_⟩⟩
 ·show Jb _ _ (if y=c then some r else s.2 y);rw[jf];by_cases e:y=c
  ·rw[Xo (by rw[e]),Xo e];exact⟨t,rfl,T _ _ ht⟩
  ·rw[Xk (fun z=>e (c_ z)),Xk e];exact(D.mv y).cw T
 ·by_cases e:a=dk
  ·exact⟨_,by rw[e];exact ae,fun v=>(XA)⟩
  ·obtain⟨o,h1,h2⟩:=D.nt a h;exact⟨o,by rw[af e];exact h1,h2⟩
end
structure Base(H0 H:Hp)(S:Addr→Prop):Prop where
 same:au H0 H
 free:∀a,S a→H0 a=none
theorem Base.ups{H0 H H':Hp}{S S':Addr→Prop}(b:Base H0 H S)(u:ny S H S' H'):Base H0 H' S':=by
 refine⟨fun a o h=>u.keep a o (fun z=>by rw[b.free a z]at h;cases h) (b.same a o h),fun a h=>?_⟩;rcases u.grow a h with z|z
 ·exact b.free a z
 ·exact b.same.free z
theorem Base.more{H0 H H':Hp}{S:Addr→Prop}(b:Base H0 H S)(s:au H H'):Base H0 H' S:=⟨b.same.trans s,b.free⟩
inductive oZ(C CG:Addr)(vs:List V)(H:Hp)(Q:VK)(u3:XK):Prop
 |mk (x dx tr:Addr) (W:Int) (_:vs=[.ref x, .ref tr, .int W]) (_:H x=some (.ins C dx [])) (_:∀H' S,SameBut x H H'→(∀a,S a→H a=none)→gH H' C CG x tr W S (fun _ _=>False,fun _=>none) 0 0→Q .cD H'):oZ C CG vs H Q u3
inductive rf(C CG:Addr)(vs:List V)(H:Hp)(Q:VK)(u3:XK):Prop
 |mk (x tc tp tr:Addr) (W:Int) (c r:Pr) (S:Addr→Prop) (s:GS) (B M:Nat) (_:vs=[.ref x, .ref tc, .ref tp]) (_:gH H C CG x tr W S s B M) (_:H tc=some (.tup (ke c))) (_:H tp=some (.tup (ke r))) (_:s.1 r r) (_:∀r0,s.2 c=some r0→s.1 r0 r0) (_:B≤10000) (_:M≤10000) (_:∀H' S',ny S H S' H'→gH H' C CG x tr W S' (wU s c r) B (M+1)→Q .cD H'):rf C CG vs H Q u3
inductive rg(C CG CT:Addr)(vs:List V)(H:Hp)(Q:VK)(u3:XK):Prop
 |mk (x tc tp tr dt e b:Addr) (es bs:List Addr) (f:Nat→Nat→Option Int) (o p:Int) (n m:Nat) (W:Int) (i j:Nat) (r:Pr) (S:Addr→Prop) (s:GS) (B M:Nat) (H0:Hp) (_:vs=[.ref x, .ref tc, .ref tp]) (_:gH H C CG x tr W S s B M) (_:oW H0 CT tr dt e b es bs f o p n m) (_:Base H0 H S) (_:H tc=some (.tup (ke (aL (i+1,j+1))))) (_:H tp=some (.tup (ke (aL (i,j))))) (_:i<n) (_:j<m) (_:ed f o p W) (_:gG f o p W s) (_:s.2 (aL (i+1,j+1))=some r) (_:B<10000) (_:M+2≤10000)
  (_:∀H' S',ny S H S' H'→gH H' C CG x tr W S' (Je f o p i j s r) (B+1) (M+2)→Q .cD H'):rg C CG CT vs H Q u3
inductive o6(C CG CT:Addr)(vs:List V)(H:Hp)(Q:VK)(u3:XK):Prop
 |mk (x tr dt e b:Addr) (es bs:List Addr) (f:Nat→Nat→Option Int) (o p:Int) (n m:Nat) (W:Int) (i j:Nat) (S:Addr→Prop) (s:GS) (B M:Nat) (H0:Hp) (_:vs=[.ref x, .int i, .int j]) (_:gH H C CG x tr W S s B M) (_:oW H0 CT tr dt e b es bs f o p n m) (_:Base H0 H S) (_:i<n) (_:j<m) (_:n≤1000) (_:m≤1000) (_:ed f o p W) (_:gG f o p W s) (_:B+2≤10000) (_:M+3≤10000)
  (_:∀H' S',ny S H S' H'→gH H' C CG x tr W S' (X4 f o p W i j s) (B+2) (M+3)→Q .cD H'):o6 C CG CT vs H Q u3
inductive YV(CT:Addr)(vs:List V)(H:Hp)(Q:VK)(u3:XK):Prop
 |mk (tr dt e b:Addr) (es bs:List Addr) (f:Nat→Nat→Option Int) (o p:Int) (n m:Nat) (W:Int) (_:vs=[.ref tr, .int W]) (_:oW H CT tr dt e b es bs f o p n m) (_:Bo f n m) (_:n*m≤3000) (_:n≤1000) (_:m≤1000) (_:ed f o p W)
  (_:∀H' r us gs,au H H'→H r=none→H' r=some (.lst us)→fC H' us gs→(∀(k:Nat) a,us[k]?=some (.ref a)→H a=none)→Told (fY f o p W) gs→Q (.ref r) H'):YV CT vs H Q u3
structure Fd where
 worth:Int
 way:List Pr
 row:List Int
 pairs:List Pr
def wV(g:Pr→Option Int)(o p:Int)(ps:List Pr):List Int:=(List.range ps.length).map fun k=>vl g o p (ps.take (k+1))
theorem Dy(g:Pr→Option Int)(o p:Int)(ps:List Pr)(q:Pr):wV g o p (ps++[q])=wV g o p ps++[vl g o p (ps++[q])]:=by
 unfold wV;rw[List.length_append,List.length_singleton,List.range_succ,List.map_append]
 congr 1
 ·apply List.map_congr_left;intro k hk;have:k<ps.length:=by simpa using hk
  rw[List.take_append_of_le_length Xs]
 ·simp;rw[List.take_of_length_le Xr]
structure LZ(f:Nat→Nat→Option Int)(o p W:Int)(d:Fd):Prop where
 worth:d.worth=W
 way:BW f o p W d.way
 row:d.row=wV (lf f) o p d.way
 sub:∀q∈d.way,q∈d.pairs
def j5(f:Nat→Nat→Option Int)(ps:List Pr):Nat→Nat→Option Int:=fun i j=>if aL (i,j)∈ps then none else f i j
def Stop(f:Nat→Nat→Option Int)(o p least:Int):Prop:=∀ps,Wy (lf f) ps→vl (lf f) o p ps<least
structure lA(f:Nat→Nat→Option Int)(o p least W:Int)(gs:List (List Pr))(ds:List Fd):Prop where
 top:ed f o p W
 ex:∃ps,BW f o p W ps
 least:least≤W
 told:Told (fY f o p W) gs
 DS:ds.map Fd.pairs=gs
 ok:∀d∈ds,LZ f o p W d
inductive Reach(f0:Nat→Nat→Option Int)(o p least:Int):List Fd→(Nat→Nat→Option Int)→Prop
 |start:Reach f0 o p least [] f0
 |round {done:List Fd} {f:Nat→Nat→Option Int} {W:Int} {gs:List (List Pr)} {ds:List Fd} (_:Reach f0 o p least done f) (_:lA f o p least W gs ds):Reach f0 o p least (done++ds) (j5 f gs.flatten)
theorem Dz{f:Nat→Nat→Option Int}{n m:Nat}(t:Bo f n m)(ps:List Pr):Bo (j5 f ps) n m:=fun i j h=>t i j (by
 unfold j5 at h;split at h
 ·cases h
 ·exact h)
theorem Reach.PU{f0 f:Nat→Nat→Option Int}{o p least:Int}{ds:List Fd}{n m:Nat}(t:Bo f0 n m)(r:Reach f0 o p least ds f):Bo f n m:=by
 induction r with
 |start=>exact t
 |round _ _ ih=>exact Dz ih _
theorem qA(f:Nat→Nat→Option Int)(ps:List Pr)(q:Pr):lf (j5 f ps) q=if q∈ps then none else lf f q:=by
 unfold lf j5;by_cases h:0≤q.1∧0≤q.2
 ·rw[Xo h,Xo h];have:aL (q.1.toNat,q.2.toNat)=q:=Prod.ext (by simp[aL];omega) (by simp[aL];omega);rw[this]
 ·rw[Xk h,Xk h];split<;>rfl
theorem fY.open{f:Nat→Nat→Option Int}{o p W:Int}{a b:Pr}(h:fY f o p W a b):(lf f a).isSome=true:=by
 obtain⟨ps,⟨w,_⟩,hm⟩:=h.on;exact w.ok a hm
theorem Told.mem{E:Pr→Pr→Prop}{gs:List (List Pr)}(t:Told E gs){ps:List Pr}(h:ps∈gs){a:Pr}(ha:a∈ps):E a a:=(t.cls ps h a ha a).mp ha
structure Apart(f0 f:Nat→Nat→Option Int)(ds:List Fd):Prop where
 sub:∀q,(lf f q).isSome=true→lf f q=lf f0 q
 shut:∀d∈ds,∀q∈d.pairs,lf f q=none∧(lf f0 q).isSome=true
 ap:ds.Pairwise fun a b=>∀q∈a.pairs,q∉b.pairs
 qT:∀d∈ds,d.pairs.Pairwise (fun p q=>iL p q=true)∧d.pairs≠[]
 gone:∀q,lf f q=none→(lf f0 q).isSome=true→∃d∈ds,q∈d.pairs
theorem Reach.apart{f0 f:Nat→Nat→Option Int}{o p least:Int}{ds:List Fd}(r:Reach f0 o p least ds f):Apart f0 f ds:=by
 induction r with
 |start=>exact⟨fun _ _=>rfl,fun d h=>(by cases h), .nil,fun d h=>(by cases h),fun q h1 h2=>by rw[h1]at h2;cases h2⟩
 |@round done f W gs ds r R ih=>
  have mem:∀d∈ds,d.pairs∈gs:=fun d h=>by rw[←R.DS];exact List.mem_map.mpr ⟨d,h,rfl⟩
  have op:∀d∈ds,∀q∈d.pairs,(lf f q).isSome=true:=fun d h q hq=>(R.told.mem (mem d h) hq).open
  refine⟨fun q h=>?_,fun d h q hq=>?_,?_,fun d h=>?_,fun q h1 h2=>?_⟩
  ·rw[qA]at h⊢;split at h
   ·cases h
   ·rename_i hn
    rw[Xk hn];exact ih.sub q h
  ·rw[qA];rcases List.mem_append.mp h with h|h
   ·obtain⟨h1,h2⟩:=ih.shut d h q hq;exact⟨by split;rfl;exact h1,h2⟩
   ·rw[Xo (List.mem_flatten.mpr ⟨_,mem d h,hq⟩)];have:=op d h q hq;exact⟨rfl,by rw[←ih.sub q this];exact this⟩
  ·refine List.pairwise_append.mpr ⟨ih.ap,?_,fun a ha b hb q hq LY=>?_⟩
   ·have:=R.told.apart;rw[←R.DS,List.pairwise_map]at this;exact this
   ·have h1:=(ih.shut a ha q hq).1;have h2:=op b hb q LY;rw[h1]at h2;cases h2
  ·rcases List.mem_append.mp h with h|h
   ·exact ih.qT d h
   ·exact⟨R.told.qT _ (mem d h),R.told.ne _ (mem d h)⟩
  ·rw[qA]at h1;by_cases hm:q∈gs.flatten
   ·obtain⟨ps,Br,hq⟩:=List.mem_flatten.mp hm;rw[←R.DS]at Br;obtain⟨d,hd,rfl⟩:=List.mem_map.mp Br;exact⟨d,List.mem_append_right _ hd,hq⟩
   ·rw[Xk hm]at h1;obtain⟨d,hd,hq⟩:=ih.gone q h1 h2;exact⟨d,List.mem_append_left _ hd,hq⟩
theorem rh(f:Nat→Nat→Option Int)(o p:Int):∀i j v,Bq f o p i j=some v→∃e,cW f o p (cq f o p i j).1 (cq f o p i j).2=some e∧v=e-(o*((i:Int)-1-(cq f o p i j).1)+p*((j:Int)-1-(cq f o p i j).2))
 |0,j,v,h=>by rw[gW]at h;cases h
 |i+1,0,v,h=>by unfold Bq at h;cases h
 |i+1,j+1,v,hB=>by
  unfold cq;by_cases h1:cW f o p i j=Bq f o p (i+1) (j+1)
  ·rw[Xo h1];refine⟨v,by rw[h1,hB],?_⟩;have e1:((i+1:Nat):Int)-1-((i,j).1:Int)=0:=by show((i+1:Nat):Int)-1-(i:Int)=0;omega
   have e2:((j+1:Nat):Int)-1-((i,j).2:Int)=0:=by show((j+1:Nat):Int)-1-(j:Int)=0;omega
   rw[e1,e2,Int.mul_zero,Int.mul_zero];omega
  ·rw[Xk h1];by_cases h2:bq (Bq f o p i (j+1)) o=Bq f o p (i+1) (j+1)
   ·rw[Xo h2];cases e:Bq f o p i (j+1)with
    |none=>rw[e,hB]at h2;cases h2
    |some v2=>
     rw[e,hB]at h2;have h2:v2-o=v:=by simpa[bq]using h2
     obtain⟨x,hx,hv⟩:=rh f o p i (j+1) v2 e;refine⟨x,hx,?_⟩;have e1:((i+1:Nat):Int)-1-((cq f o p i (j+1)).1:Int)=((i:Int)-1-(cq f o p i (j+1)).1)+1:=Xx;rw[e1,Int.mul_add];omega
   ·rw[Xk h2];have e0:Bq f o p (i+1) (j+1)=ni [cW f o p i j,bq (Bq f o p i (j+1)) o,bq (Bq f o p (i+1) j) p]:=by rw[Bq];rfl
    have key:∀a b c:Option Int,ni [a,b,c]≠a→ni [a,b,c]≠b→c=ni [a,b,c]:=fun a b c=>by
     cases a<;>cases b<;>cases c<;>simp[ni]<;>omega
    have h3:bq (Bq f o p (i+1) j) p=Bq f o p (i+1) (j+1):=by
     rw[e0];exact key _ _ _ (fun z=>h1 (by rw[e0];exact z.symm)) (fun z=>h2 (by rw[e0];exact z.symm))
    cases e:Bq f o p (i+1) j with
    |none=>rw[e,hB]at h3;cases h3
    |some v2=>
     rw[e,hB]at h3;have h3:v2-p=v:=by simpa[bq]using h3
     obtain⟨x,hx,hv⟩:=rh f o p (i+1) j v2 e;refine⟨x,hx,?_⟩;have e1:((j+1:Nat):Int)-1-((cq f o p (i+1) j).2:Int)=((j:Int)-1-(cq f o p (i+1) j).2)+1:=Xx;rw[e1,Int.mul_add];omega
termination_by i j=>(i,j)
theorem E7(f:Nat→Nat→Option Int)(o p:Int):∀(k i j:Nat)(v:Int),i≤k→cW f o p i j=some v→Wy (lf f) ((dQ f o p i i j).map aL)∧lstP ((dQ f o p i i j).map aL)=aL (i,j)∧vl (lf f) o p ((dQ f o p i i j).map aL)=v∧(dQ f o p i i j).map (fun q=>cW f o p q.1 q.2)=(wV (lf f) o p ((dQ f o p i i j).map aL)).map some:=by
 intro k
 induction k with
 |zero=>
  intro i j v hi he;have:i=0:=Xx;subst this;rw[gf (fun h=>by rw[gW]at h;cases h)];have hw:f 0 j=some v:=by
   unfold cW at he;rw[gW]at he;cases e:f 0 j with
   |none=>rw[e]at he;cases he
   |some w=>rw[e]at he;exact he
  have hl:lf f (aL (0,j))=some v:=by rw[←hw];exact oU f 0 j
  refine⟨.one (by rw[hl];rfl),rfl,by simp[vl,hl],?_⟩;simp[wV,vl,hl,he]
 |succ k ih=>
  intro i j v hi he;by_cases hg:f6 (Bq f o p i j)=true
  ·obtain⟨a1,a2,a3⟩:=jl hg;obtain⟨l1,l2⟩:=(jI f o p i j a1 a2).resolve_right a3;rw[tV hg,List.map_append,List.map_append];cases eb:Bq f o p i j with
   |none=>exact absurd eb a3
   |some b=>
    obtain⟨x,hx,hb⟩:=rh f o p i j b eb;obtain⟨w1,w2,w3,w4⟩:=ih _ _ x (Xx) hx;have Ww:0≤b:=by rw[eb]at hg;simpa[f6]using hg
    have hw:∃w,f i j=some w∧v=w+b:=by
     unfold cW at he;rw[eb]at he;cases e:f i j with
     |none=>rw[e]at he;cases he
     |some w=>
      rw[e]at he;simp only[EL,show ¬b<0 by omega,if_false,Option.some.injEq]at he;exact⟨w,rfl,Xx⟩
    obtain⟨w,hw,hv⟩:=hw;have hl:lf f (aL (i,j))=some w:=by rw[←hw];exact oU f i j
    have st:vK (lstP ((dQ f o p (cq f o p i j).1 (cq f o p i j).1 (cq f o p i j).2).map aL)) (aL (i,j)):=by
     rw[w2];exact⟨by simp[aL];omega,by simp[aL];omega⟩
    have ev:vl (lf f) o p ((dQ f o p (cq f o p i j).1 (cq f o p i j).1 (cq f o p i j).2).map aL++[aL (i,j)])=v:=by
     rw[qw _ _ _ w1.ne,w2,w3,hl];simp only[gp,Option.getD_some];have e1:(aL (i,j)).1-(aL ((cq f o p i j).1,(cq f o p i j).2)).1-1=(i:Int)-1-(cq f o p i j).1:=by show(i:Int)-((cq f o p i j).1:Int)-1=_;omega
     have e2:(aL (i,j)).2-(aL ((cq f o p i j).1,(cq f o p i j).2)).2-1=(j:Int)-1-(cq f o p i j).2:=by show(j:Int)-((cq f o p i j).2:Int)-1=_;omega
     rw[e1,e2];omega
    refine⟨w1.snoc (by rw[hl];rfl) st,dN,ev,?_⟩;show _++[cW f o p i j]=(wV (lf f) o p (_++[aL (i,j)])).map some;rw[Dy,List.map_append,w4,he];show _++[some v]=_++[some _];rw[ev]
  ·rw[gf hg];have hw:f i j=some v:=by
    unfold cW at he;cases e:f i j with
    |none=>rw[e]at he;cases he
    |some w=>
     rw[e]at he;cases eb:Bq f o p i j with
     |none=>rw[eb]at he;exact he
     |some b=>
      rw[eb]at he hg;have:b<0:=by
       have:¬0≤b:=fun z=>hg (by simpa[f6]using z)
       omega
      simp only[EL,this,if_true]at he;exact he
   have hl:lf f (aL (i,j))=some v:=by rw[←hw];exact oU f i j
   refine⟨.one (by rw[hl];rfl),rfl,by simp[vl,hl],?_⟩;simp[wV,vl,hl,he]
def E8(f:Nat→Nat→Option Int)(o p:Int)(n m:Nat):Option Int:=ni ((List.range n).map fun i=>ni ((List.range m).map (cW f o p i)))
theorem DA{f:Nat→Nat→Option Int}{n m:Nat}(t:Bo f n m)(o p:Int):fm (fun v=>∃ps,Wy (lf f) ps∧v=vl (lf f) o p ps) (E8 f o p n m):=by
 refine(jG _).Rq (fun v hv=>?_) (fun v hv=>?_)
 ·obtain⟨i,_,h2⟩:=List.mem_map.mp hv;have h3:=jG ((List.range m).map (cW f o p i));rw[h2]at h3;obtain⟨j,_,h4⟩:=List.mem_map.mp h3.1;obtain⟨as,a1,_,a3⟩:=lu h4;exact⟨as,a1,a3.symm⟩
 ·obtain⟨ps,w,rfl⟩:=hv;obtain⟨i,j,hl,hi,hj⟩:=i9 t w (cQ w.ne);obtain⟨b,hb,hle⟩:=uW (o:=o) (p:=p) w hl;have h3:=jG ((List.range m).map (cW f o p i));have m4:some b∈(List.range m).map (cW f o p i):=List.mem_map.mpr ⟨j,by simpa using hj,hb⟩;cases e:ni ((List.range m).map (cW f o p i))with
  |none=>rw[e]at h3;exact absurd m4 (h3 b)
  |some u=>
   rw[e]at h3;refine⟨u,List.mem_map.mpr ⟨i,by simpa using hi,e⟩,?_⟩;have:=h3.2 b m4;omega
theorem A0{f:Nat→Nat→Option Int}{o p W:Int}(T:ed f o p W){n m:Nat}(t:Bo f n m){a b:Pr}(h:fY f o p W a b):∃i j:Nat,cW f o p i j=some W∧i<n∧j<m∧fY f o p W a (aL (i,j)):=by
 obtain⟨ps,w,hm⟩:=h.on;obtain⟨i,j,hl,hi,hj⟩:=i9 t w.1 (cQ w.1.ne);obtain⟨v,hb,hle⟩:=uW (o:=o) (p:=p) w.1 hl;obtain⟨as,a1,_,a3⟩:=lu hb;have:=T _ a1;have hW:=w.2;refine⟨i,j,by rw[hb];congr 1;omega,hi,hj, .way ps w hm ?_⟩;rw[←hl];exact cQ w.1.ne
def uX(n m:Nat):List Pr:=(List.range n).flatMap fun i=>(List.range m).map fun j=>aL (i,j)
theorem rj(n m:Nat):(uX n m).length=n*m:=by
 unfold uX
 induction n with
 |zero=>simp
 |succ n ih=>
  rw[List.range_succ,List.flatMap_append,List.length_append,ih,Nat.succ_mul];simp
theorem rk{n m i j:Nat}(hi:i<n)(hj:j<m):aL (i,j)∈uX n m:=List.mem_flatMap.mpr ⟨i,by simpa using hi,List.mem_map.mpr ⟨j,by simpa using hj,rfl⟩⟩
theorem Told.ue{E:Pr→Pr→Prop}{gs:List (List Pr)}{n m:Nat}(t:Told E gs)(h:∀g∈gs,∀a∈g,∃i j:Nat,a=aL (i,j)∧i<n∧j<m):gs.length≤n*m:=by
 have hf:∀g∈gs,lI g∈g:=fun g hg=>by
  cases e:g with
  |nil=>exact absurd e (t.ne g hg)
  |cons a r=>simp[lI]
 have:=len_sub (gs.map lI) (uX n m) (List.pairwise_map.mpr (List.Pairwise.imp_of_mem (fun{a b} ha hb Dj e=>Dj (lI a) (hf a ha) (by rw[e];exact hf b hb)) t.apart)) fun x hx=>by
  obtain⟨g,hg,rfl⟩:=List.mem_map.mp hx;obtain⟨i,j,e,hi,hj⟩:=h g hg _ (hf g hg);rw[e];exact rk hi hj
 rw[List.length_map,rj]at this;exact this
structure wW(P:Addr→Prop)(H:Hp)(CF a:Addr)(d:Fd)(dy wy rw pr:Addr)(mf i7:List V):Prop where
 ob:H a=some (.ins CF dy (lW d.worth wy rw pr))
 hw:H wy=some (.lst mf)
 pw:f' H mf d.way
 hr:H rw=some (.lst (d.row.map V.int))
 hp:H pr=some (.lst i7)
 pp:f' H i7 d.pairs
 fa:P a
 fw:P wy
 fr:P rw
 fp:P pr
def ck(P:Addr→Prop)(H:Hp)(CF:Addr)(us:List V)(ds:List Fd):Prop:=us.length=ds.length∧∀(k:Nat) d,ds[k]?=some d→∃a dy wy rw pr mf i7,us[k]?=some (V.ref a)∧wW P H CF a d dy wy rw pr mf i7
theorem wW.keep{P P':Addr→Prop}{H H':Hp}{CF a:Addr}{d:Fd}{dy wy rw pr:Addr}{mf i7:List V}(F:wW P H CF a d dy wy rw pr mf i7)(h:∀b o,P b→H b=some o→H' b=some o)(t:eV H H')(hP:∀b,P b→P' b):wW P' H' CF a d dy wy rw pr mf i7:=
 ⟨h _ _ F.fa F.ob,h _ _ F.fw F.hw,F.pw.cw t,h _ _ F.fr F.hr,h _ _ F.fp F.hp,F.pp.cw t,hP _ F.fa,hP _ F.fw,hP _ F.fr,hP _ F.fp⟩
theorem ck.keep{P P':Addr→Prop}{H H':Hp}{CF:Addr}{us:List V}{ds:List Fd}(F:ck P H CF us ds)(h:∀b o,P b→H b=some o→H' b=some o)(t:eV H H')(hP:∀b,P b→P' b):ck P' H' CF us ds:=
 ⟨F.1,fun k d e=>let ⟨a,dy,wy,rw,pr,mf,i7,h1,h2⟩:=F.2 k d e;⟨a,dy,wy,rw,pr,mf,i7,h1,h2.keep h t hP⟩⟩
theorem ck.nil{P:Addr→Prop}{H:Hp}{CF:Addr}:ck P H CF [] []:=⟨rfl,fun k d e=>by simp at e⟩
theorem ck.append{P:Addr→Prop}{H:Hp}{CF:Addr}{us vs:List V}{ds es:List Fd}(F:ck P H CF us ds)(G:ck P H CF vs es):ck P H CF (us++vs) (ds++es):=by
 refine⟨by rw[List.length_append,List.length_append,F.1,G.1],fun k d e=>?_⟩;by_cases hk:k<ds.length
 ·rw[List.getElem?_append_left hk]at e;rw[List.getElem?_append_left (by rw[F.1];exact hk)];exact F.2 k d e
 ·rw[List.getElem?_append_right Xs]at e;rw[List.getElem?_append_right (by rw[F.1];omega),F.1];exact G.2 _ d e
inductive rl(CT:Addr)(vs:List V)(H:Hp)(Q:VK)(u3:XK):Prop
 |mk (f g t:Addr) (v:V) (c:Case) (shut:List Pr) (_:vs=[.ref f, .ref g, .ref t,v]) (_:H f=some (.lst (c.xs.map V.str))) (_:H g=some (.lst (c.ys.map V.str))) (_:wu H CT t c) (_:CA H v shut) (_:shut.length≤1000) (_:c.xs.length≤1000) (_:c.ys.length≤1000) (_:∀H' e as,au H H'→H' e=some (.lst (as.map V.ref))→H e=none→il H' as (j1 c shut) c.xs.length c.ys.length→as.Nodup→e∉as→(∀a∈as,H a=none)→Q (.ref e) H'):rl CT vs H Q u3
inductive nB(CT CF:Addr)(vs:List V)(H:Hp)(Q:VK)(u3:XK):Prop
 |mk (w t:Addr) (as:List Addr) (c:Case) (f:Nat→Nat→Option Int) (n m:Nat) (_:vs=[.ref w, .ref t]) (_:H w=some (.lst (as.map V.ref))) (_:il H as f n m) (_:wu H CT t c) (_:Bo f n m) (_:n*m≤3000) (_:n≤1000) (_:m≤1000)
  (_:Stop f c.out c.into c.least→∀H' r,au H H'→H r=none→H' r=some (.lst [])→Q (.ref r) H')
  (_:∀W gs ds,lA f c.out c.into c.least W gs ds→gs≠[]→∀H' r us,au H H'→H r=none→H' r=some (.lst us)→ck (fun b=>H b=none) H' CF us ds→Q (.ref r) H'):nB CT CF vs H Q u3
inductive rm(CF:Addr)(vs:List V)(H:Hp)(Q:VK)(u3:XK):Prop
 |mk (w md:Addr) (as:List Addr) (us:List V) (ds:List Fd) (f:Nat→Nat→Option Int) (n m:Nat) (_:vs=[.ref w, .ref md]) (_:H w=some (.lst (as.map V.ref))) (_:as.Nodup) (_:w∉as) (_:il H as f n m) (_:H md=some (.lst us)) (_:md∉as) (_:ck (fun b=>b∉as) H CF us ds) (_:∀d∈ds,∀q∈d.pairs,∃i j:Nat,q=aL (i,j)∧i<n∧j<m)
  (_:∀H',(∀b o,b∉as→H b=some o→H' b=some o)→eV H H'→il H' as (j5 f (ds.map Fd.pairs).flatten) n m→Q .cD H'):rm CF vs H Q u3
def Jj(a b:Fd):Bool:=if a.worth=b.worth then iL (lI a.pairs) (lI b.pairs)else decide (b.worth<a.worth)
structure ja(f0:Nat→Nat→Option Int)(o p least:Int)(es:List Fd):Prop where
 Nr:∃ds f,Reach f0 o p least ds f∧Stop f o p least∧es.Perm ds
 ue:es.length≤20
 qT:es.Pairwise fun a b=>Jj a b=true
inductive uY(CT CF CX:Addr)(vs:List V)(H:Hp)(Q:VK)(E:XK):Prop
 |mk (a b t:Addr) (c:Case) (_:vs=[.ref a, .ref b, .ref t]) (_:H a=some (.lst (c.xs.map V.str))) (_:H b=some (.lst (c.ys.map V.str))) (_:wu H CT t c) (_:c.xs.length≤50) (_:c.ys.length≤50)
  (_:∀es,ja (j1 c []) c.out c.into c.least es→∀H' r us,au H H'→H r=none→H' r=some (.lst us)→ck (fun b=>H b=none) H' CF us es→Q (.ref r) H')
  (_:∀ds f,Reach (j1 c []) c.out c.into c.least ds f→20<ds.length→∀H',au H H'→E (.ref CX) none H'):uY CT CF CX vs H Q E
def DB(c:Case)(i m:Nat):Nat:=((List.range m).filter fun j=>(c.pw (aL (i,j))).isSome).length
def manyN(c:Case):Nat→Nat
 |0=>0
 |n+1=>manyN c n+DB c n c.ys.length
theorem A3(c:Case)(i m:Nat):DB c i (m+1)=DB c i m+if (c.pw (aL (i,m))).isSome=true then 1 else 0:=by
 unfold DB;rw[List.range_succ,List.filter_append,List.length_append]
 congr 1
 by_cases h:(c.pw (aL (i,m))).isSome=true
 ·rw[Xo h,List.filter_cons,Xo h];rfl
 ·rw[Xk h,List.filter_cons,Xk h];rfl
theorem rn(c:Case):∀n,((uX n c.ys.length).filter fun q=>(c.pw q).isSome).length=manyN c n
 |0=>rfl
 |n+1=>by
  unfold uX;rw[List.range_succ,List.flatMap_append,List.filter_append,List.length_append];have ih:=rn c n;unfold uX at ih;rw[ih,manyN]
  congr 1
  simp only[List.flatMap_cons,List.flatMap_nil,List.append_nil];rw[List.filter_map,List.length_map];rfl
def bJ(c:Case):Nat:=manyN c c.xs.length/21+1
def dU(c:Case):Int:=min c.same (999999/(bJ c:Int))
def dW(c:Case):Case:={c with same:=dU c,least:=max c.least (((bJ c:Int)-1)*dU c+1)}
theorem ZW(s t:Int)(fs:List Form)(x y:Str):(du s fs x y).isSome=(du t fs x y).isSome:=by
 unfold du;split
 ·rfl
 ·simp
theorem A4(c:Case)(q:Pr):((dW c).pw q).isSome=(c.pw q).isSome:=by
 unfold Case.pw;show((wd c.xs q.1).bind fun x=>(wd c.ys q.2).bind fun y=>du (dW c).same c.fs x y).isSome=_;cases wd c.xs q.1 with
 |none=>rfl
 |some x=>
  cases wd c.ys q.2 with
  |none=>rfl
  |some y=>exact ZW _ _ _ _ _
theorem A5{fs:List Form}(g:br fs=true){x y:Str}{p:Int}(h:dA fs x y=some p):0≤p:=by
 unfold dA at h;cases e:fs.find? fun f=>decide (f.1=x∧f.2.1=y)with
 |none=>rw[e]at h;cases h
 |some f=>
  rw[e]at h;have h:f.2.2=p:=by simpa using h
  have hm:=List.mem_of_find?_eq_some e;simp only[br,Bool.and_eq_true,List.all_eq_true]at g;have:=g.1.2 f hm;simp only[Bn,gN,inR,Bool.and_eq_true,decide_eq_true_eq]at this;omega
theorem pw_le{c:Case}(g:br c.fs=true){q:Pr}{w:Int}(h:c.pw q=some w):w≤c.same:=by
 unfold Case.pw at h;cases e1:wd c.xs q.1 with
 |none=>rw[e1]at h;cases h
 |some x=>
  cases e2:wd c.ys q.2 with
  |none=>rw[e1,e2]at h;cases h
  |some y=>
   rw[e1,e2]at h;have h:du c.same c.fs x y=some w:=h;unfold du at h;split at h
   ·cases h;exact Int.le_refl _
   ·cases e3:dA c.fs x y with
    |none=>rw[e3]at h;cases h
    |some p=>
     rw[e3]at h;have h:c.same-p=w:=by simpa using h
     have:=A5 g e3;omega
theorem Z'(c:Case)(n:Nat):manyN c n≤n*c.ys.length:=by
 rw[←rn,←rj];exact List.length_filter_le _ _
theorem Ym{m:Nat}{c:Case}(k:gO m c)(hm:m≤60):gO m (dW c):=by
 have h1:manyN c c.xs.length≤3600:=by
  have:=Z' c c.xs.length;have h2:=Nat.mul_le_mul (Nat.le_trans k.x hm) (Nat.le_trans k.y hm);omega
 have he:(1:Int)≤bJ c∧(bJ c:Int)≤172:=by unfold bJ;omega
 have hq:(bJ c:Int)*(999999/(bJ c:Int))≤999999:=by
  have:=Int.mul_ediv_self_le (x:=999999) (k:=(bJ c:Int)) (Xx);exact this
 have Wx:1≤999999/(bJ c:Int):=by
  have:(172:Int)≤999999:=Xy;exact(Int.le_ediv_iff_mul_le Xs).mpr Xs
 have hs:=k.same;have hl:=k.least;have s1:1≤dU c∧dU c≤999999∧dU c≤999999/(bJ c:Int):=by unfold dU;omega
 refine⟨k.x,k.y,k.good,⟨s1.1,s1.2.1⟩,k.out,k.into,?_⟩;show 1≤max c.least (((bJ c:Int)-1)*dU c+1)∧max c.least (((bJ c:Int)-1)*dU c+1)≤999999;have h3:((bJ c:Int)-1)*dU c+1≤999999:=by
  have h4:(bJ c:Int)*dU c≤(bJ c:Int)*(999999/(bJ c:Int)):=Int.mul_le_mul_of_nonneg_left s1.2.2 Xs;rw[Int.sub_mul];omega
 omega
theorem gI{g g':Pr→Option Int}(o p:Int):∀{ps:List Pr},(∀q∈ps,g q=g' q)→vl g o p ps=vl g' o p ps
 |[],_=>rfl
 |[a],h=>by simp only[vl];rw[h a (XA)]
 |a::b::r,h=>by
  have ih:=gI (g:=g) (g':=g') o p (ps:=b::r) fun q hq=>h q (by simp[hq])
  simp only[vl];rw[ih,h a (XA)]
theorem A6{g g':Pr→Option Int}(o p:Int){ps:List Pr}(h:∀q∈ps,g q=g' q):wV g o p ps=wV g' o p ps:=by
 unfold wV;apply List.map_congr_left;intro k _;exact gI o p fun q hq=>h q (List.mem_of_mem_take hq)
theorem Wy.congr{g g':Pr→Option Int}{ps:List Pr}(w:Wy g ps)(h:∀q∈ps,g q=g' q):Wy g' ps:=⟨w.ne,fun q hq=>by rw[←h q hq];exact w.ok q hq,w.up⟩
theorem Jk{o p:Int}(ho:0≤o)(hp:0≤p){a b:Pr}(s:vK a b):0≤gp o p a b:=by
 have h1:=s.1;have h2:=s.2;have:=Int.mul_nonneg ho (show 0≤b.1-a.1-1 by omega);have:=Int.mul_nonneg hp (show 0≤b.2-a.2-1 by omega);unfold gp;omega
theorem DC{g:Pr→Option Int}{o p S:Int}(ho:0≤o)(hp:0≤p):∀{ps:List Pr},ps.Pairwise vK→(∀q∈ps,∃w,g q=some w∧w≤S)→vl g o p ps≤ps.length*S
 |[],_,_=>by simp[vl]
 |[a],_,h=>by
  obtain⟨w,h1,h2⟩:=h a (XA);simp[vl,h1,h2]
 |a::b::r,hs,h=>by
  have lU:=List.pairwise_cons.mp hs;have ih:=DC ho hp lU.2 fun q hq=>h q (by simp[hq])
  obtain⟨w,h1,h2⟩:=h a (XA);have:=Jk ho hp (lU.1 b (XA));simp only[vl,h1,Option.getD_some];have e:((a::b::r).length:Int)*S=((b::r).length:Int)*S+S:=by
   rw[List.length_cons (as:=b::r),Int.natCast_add,Int.add_mul];simp
  rw[e];omega
structure L0(f0:Nat→Nat→Option Int)(o p least:Int)(d:Fd):Prop where
 way:Wy (lf f0) d.way
 worth:vl (lf f0) o p d.way=d.worth
 least:least≤d.worth
 row:d.row=wV (lf f0) o p d.way
 sub:∀q∈d.way,q∈d.pairs
 qT:d.pairs.Pairwise fun p q=>iL p q=true
 op:∀q∈d.pairs,(lf f0 q).isSome=true
 part:∀a b,d.way=a++b→a≠[]→b≠[]→vl (lf f0) o p a≤d.worth∧vl (lf f0) o p b≤d.worth
theorem Reach.mi{f0 f:Nat→Nat→Option Int}{o p least:Int}{ds:List Fd}(r:Reach f0 o p least ds f):∀d∈ds,L0 f0 o p least d:=by
 induction r with
 |start=>exact fun d h=>by cases h
 |@round done f W gs ds r R ih=>
  intro d hd;rcases List.mem_append.mp hd with hd|hd
  ·exact ih d hd
  have ap:=r.apart;have k:=R.ok d hd;have hg:d.pairs∈gs:=by rw[←R.DS];exact List.mem_map.mpr ⟨d,hd,rfl⟩
  have cg:∀q∈d.way,lf f q=lf f0 q:=fun q hq=>ap.sub q (k.way.1.ok q hq)
  refine⟨k.way.1.congr cg,?_,by rw[k.worth];exact R.least,by rw[k.row];exact A6 o p cg,k.sub,R.told.qT _ hg,fun q hq=>?_,fun a b e ha hb=>?_⟩
  ·rw[←gI o p cg,k.way.2,k.worth]
  ·have:=(R.told.mem hg hq).open;rw[←ap.sub q this];exact this
  ·have w:=k.way.1;rw[e]at w;rw[←gI o p (fun q hq=>cg q (by rw[e];exact List.mem_append_left _ hq)),←gI o p (fun q hq=>cg q (by rw[e];exact List.mem_append_right _ hq)),k.worth];exact⟨R.top _ (w.left ha),R.top _ (w.right hb)⟩
theorem Reach.met{f0 f:Nat→Nat→Option Int}{o p least:Int}{ds:List Fd}(r:Reach f0 o p least ds f){ws:List Pr}(w:Wy (lf f0) ws):(∀q∈ws,(lf f q).isSome=true)∨∃d∈ds,vl (lf f0) o p ws≤d.worth∧∃q∈ws,q∈d.pairs:=by
 induction r with
 |start=>exact .inl w.ok
 |@round done f W gs ds r R ih=>
  rcases ih with h|⟨d,h1,h2⟩
  ·have ap:=r.apart;by_cases hm:∃q∈ws,q∈gs.flatten
   ·obtain⟨q,hq,hg⟩:=hm;obtain⟨g,RK,UT⟩:=List.mem_flatten.mp hg;rw[←R.DS]at RK;obtain⟨d,hd,rfl⟩:=List.mem_map.mp RK;refine .inr ⟨d,List.mem_append_right _ hd,?_,q,hq,UT⟩;have cg:∀q∈ws,lf f0 q=lf f q:=fun q hq=>(ap.sub q (h q hq)).symm
    rw[gI o p cg,(R.ok d hd).worth];exact R.top _ (w.congr cg)
   ·refine .inl fun q hq=>?_
    rw[qA,Xk (fun z=>hm ⟨q,hq,z⟩)];exact h q hq
  ·exact .inr ⟨d,List.mem_append_left _ h1,h2⟩
theorem ja.met{f0:Nat→Nat→Option Int}{o p least:Int}{es:List Fd}(t:ja f0 o p least es){ws:List Pr}(w:Wy (lf f0) ws)(h:least≤vl (lf f0) o p ws):∃d∈es,vl (lf f0) o p ws≤d.worth∧∃q∈ws,q∈d.pairs:=by
 obtain⟨ds,f,r,st,pm⟩:=t.Nr;rcases r.met w with z|⟨d,h1,h2⟩
 ·exfalso;have cg:∀q∈ws,lf f0 q=lf f q:=fun q hq=>(r.apart.sub q (z q hq)).symm
  have:=st ws (w.congr cg);rw[←gI o p cg]at this;omega
 ·exact⟨d,pm.mem_iff.mpr h1,h2⟩
theorem ja.mi{f0:Nat→Nat→Option Int}{o p least:Int}{es:List Fd}(t:ja f0 o p least es):∀d∈es,L0 f0 o p least d:=fun d hd=>by
 obtain⟨ds,f,r,_,pm⟩:=t.Nr;exact r.mi d (pm.mem_iff.mp hd)
theorem ja.apart{f0:Nat→Nat→Option Int}{o p least:Int}{es:List Fd}(t:ja f0 o p least es):es.Pairwise fun a b=>∀q∈a.pairs,q∉b.pairs:=by
 obtain⟨ds,f,r,_,pm⟩:=t.Nr;exact(pm.pairwise_iff fun{a b} h q hq LY=>h q LY hq).mpr r.apart.ap
theorem DD{l:List (List Pr)}{k:Nat}(h:∀x∈l,k≤x.length):l.length*k≤l.flatten.length:=by
 induction l with
 |nil=>simp
 |cons a r ih=>
  have h1:=h a (XA);have h2:=ih fun x hx=>h x (by simp[hx])
  rw[List.flatten_cons,List.length_append,List.length_cons,Nat.succ_mul];omega
theorem rp:∀{ds:List Fd},ds.Pairwise (fun a b=>∀q∈a.pairs,q∉b.pairs)→(∀d∈ds,d.pairs.Nodup)→(ds.map Fd.pairs).flatten.Nodup
 |[],_,_=>XA
 |d::r,h,h2=>by
  have h':=List.pairwise_cons.mp h;rw[List.map_cons,List.flatten_cons];refine List.nodup_append.mpr ⟨h2 d (XA),rp h'.2 fun x hx=>h2 x (by simp[hx]),fun a ha b hb e=>?_⟩;obtain⟨ps,hp,hq⟩:=List.mem_flatten.mp hb;obtain⟨x,hx,rfl⟩:=List.mem_map.mp hp;exact h'.1 x hx a ha (by rw[e];exact hq)
theorem A7{ps:List Pr}(h:ps.Pairwise fun p q=>iL p q=true):ps.Nodup:=h.imp fun{a b} h e=>by
 rw[e]at h;unfold iL at h;simp at h
theorem rq(c:Case)(q:Pr):lf (j1 c []) q=c.pw q:=by
 rw[Ic];simp[Ib]
theorem DE{m:Nat}{c:Case}(k:gO m (dW c)){ds:List Fd}{f:Nat→Nat→Option Int}(r:Reach (j1 (dW c) []) (dW c).out (dW c).into (dW c).least ds f):ds.length≤20:=by
 have each:∀d∈ds,bJ c≤d.pairs.length:=fun d hd=>by
  have F:=r.mi d hd;have h1:=DC (g:=lf (j1 (dW c) [])) (S:=(dW c).same) k.out.1 k.into.1 F.way.up fun q hq=>by
   obtain⟨w,hw⟩:=Option.isSome_iff_exists.mp (F.way.ok q hq);refine⟨w,hw,?_⟩;rw[rq]at hw;exact pw_le k.good hw
  rw[F.worth]at h1;have h2:=F.least;have h3:((bJ c:Int)-1)*dU c+1≤(dW c).least:=by show _≤max c.least _;omega
  have hs:1≤dU c:=k.same.1;have h4:((bJ c:Int)-1)*dU c<(d.way.length:Int)*dU c:=by
   have:(dW c).same=dU c:=rfl;rw[this]at h1;omega
  have h5:(bJ c:Int)-1<(d.way.length:Int):=Int.lt_of_mul_lt_mul_right h4 Xs;have h6:=len_sub d.way d.pairs (F.way.up.imp fun{a b} h e=>by
   rw[e]at h;have:=h.1;omega) F.sub
  omega
 have h1:=DD (l:=ds.map Fd.pairs) (k:=bJ c) fun x hx=>by
  obtain⟨d,hd,rfl⟩:=List.mem_map.mp hx;exact each d hd
 have h2:=rp r.apart.ap fun d hd=>A7 (r.mi d hd).qT
 have h3:=len_sub _ ((uX c.xs.length c.ys.length).filter fun q=>(c.pw q).isSome) h2 fun q hq=>by
  obtain⟨ps,hp,hq⟩:=List.mem_flatten.mp hq;obtain⟨d,hd,rfl⟩:=List.mem_map.mp hp;have:=(r.mi d hd).op q hq;rw[rq,A4]at this;refine List.mem_filter.mpr ⟨?_,this⟩;obtain⟨w,hw⟩:=Option.isSome_iff_exists.mp this;obtain⟨⟨a1,a2⟩,a3,a4⟩:=c.pw_in hw;have:=rk (n:=c.xs.length) (m:=c.ys.length) (i:=q.1.toNat) (j:=q.2.toNat) (Xx) (Xx);have e:aL (q.1.toNat,q.2.toNat)=q:=Prod.ext (by simp[aL];omega) (by simp[aL];omega);rw[e]at this;exact this
 rw[rn]at h3;rw[List.length_map]at h1;have h4:ds.length*bJ c≤manyN c c.xs.length:=Nat.le_trans h1 h3;rcases Nat.lt_or_ge 20 ds.length with h|h
 ·exfalso;have h5:21*bJ c≤ds.length*bJ c:=Nat.mul_le_mul_right _ h;unfold bJ at h4 h5;omega
 ·exact h
inductive uZ(vs:List V)(H:Hp)(Q:VK)(u3:XK):Prop
 |mk (a:Addr) (c:Case) (f g m l:Addr) (us:List V) (_:vs=[.ref a]) (_:jZ H a c f g m l us) (_:gO 60 c) (_:∀H' b m',au H H'→H b=none→H' b=some (.lst [.ref f, .ref g, .ref m', .ref l])→jZ H' b (dW c) f g m' l us→Q (.ref b) H'):uZ vs H Q u3
end QF
namespace QF
open PySem L2 PySem.Spec PyProof.Rows PySem.W PySem.Calls
section
variable{X:Cx}
open Classical in
end
end QF
namespace QF
open PySem L2
end QF
namespace L2
open PySem PySem.Spec PyProof.Rows PySem.W PySem.Calls
inductive fX(K:Frag)(x q:Str)(st:Stmt)(f:Addr):Prop
 |mk {oc kV dc pm cd ct:Value} {od an:Option Addr} {sl:Array (Option Value)} (l:K.lookup f=some ⟨oc,od, .func (fnOf x q (eK st) (dS st) (aq st) .none kV dc pm an cd ct),sl⟩) (c:codeIn K cd q=true) (k:keepIn K (.ref f)=true):fX K x q st f
theorem XQ{Φ:Value→Value→Value→Option Addr→Value→Value→List Value→Prop}(h:∀k d p n c t a,Φ k d p n c t [a])(k d p:Value)(n:Option Addr)(c t:Value)(us:List Value)(e:us.length=1):Φ k d p n c t us:=QF.Uj (h k d p n c t) us e
theorem XN{Φ:Value→Value→Value→Option Addr→Value→Value→List Value→Prop}(h:∀k d p n c t a b,Φ k d p n c t [a,b])(k d p:Value)(n:Option Addr)(c t:Value)(us:List Value)(e:us.length=2):Φ k d p n c t us:=QF.Uk (h k d p n c t) us e
theorem X7{Φ:Value→Value→Value→Option Addr→Value→Value→List Value→Prop}(h:∀k d p n c t x y z,Φ k d p n c t [x,y,z])(k d p:Value)(n:Option Addr)(c t:Value)(us:List Value)(e:us.length=3):Φ k d p n c t us:=QF.Ul (h k d p n c t) us e
theorem PV{Φ:Value→Value→Value→Option Addr→Value→Value→List Value→Prop}(h:∀k d p n c t x y z u,Φ k d p n c t [x,y,z,u])(k d p:Value)(n:Option Addr)(c t:Value)(us:List Value)(e:us.length=4):Φ k d p n c t us:=QF.Um (h k d p n c t) us e
theorem RL{Φ:Value→Value→Value→Option Addr→Value→Value→List Value→Prop}(h:∀k d p n c t x y z u v,Φ k d p n c t [x,y,z,u,v])(k d p:Value)(n:Option Addr)(c t:Value)(us:List Value)(e:us.length=5):Φ k d p n c t us:=QF.Uo (h k d p n c t) us e
section
variable{P:Program}{w:World}{K:Frag}{mg:Str→Option Value}{base h:Heap}{cm:Bool}{k:Nat}{x q:Str}{st:Stmt}{f C:Addr}{ps:List Str}{sp:Sp}
def Nt(x q:Str)(st:Stmt)(ps:List Str):Prop:=∀(kV doc pm:Value)(an:Option Addr)(bY ct:Value)(us:List Value),us.length=ps.length→bindArgs (fnOf x q (eK st) (dS st) (aq st) .none kV doc pm an bY ct) ⟨us,[]⟩=pure (ps.zip us)
theorem fX.df(d:fX K x q st f)(X:K.In h)(G:h.Ns mainGlobals mg)(a:nsIn K mainGlobals x=some (some (.ref f)))(ok:∀fd,jY K x q st f fd→aY P w K mg base (c8 P w) cm k f fd ps sp)(b:Nt x q st ps):bZ P w K mg base cm k x ps sp:=by
 obtain⟨l,c,z⟩:=d;have F:=B8 (st:=st) l c z;exact Cf F (mg_of X G a) (F.binds b) (ok _ F)
theorem fX.ok(d:fX K x q st f){R:FuncData→Prop}(ok:∀fd,gM K x q st f fd→R fd)(b:Nt x q st ps):∃fd,R fd∧Binds K fd ps []:=by
 obtain⟨l,c,z⟩:=d;exact⟨_,ok _ (Ys (st:=st) l c z), .all fun us e=>b _ _ _ _ _ _ us e⟩
theorem fX.mt(d:fX K x q st f)(cl:ua K C)(a:findIn K (.ref C) x=some (some (.ref f)))(i:isFn K (.ref f)=true)(ok:∀fd,gM K x q st f fd→aY P w K mg base (c8 P w) cm k f fd ps sp)(b:Nt x q st ps):dP P w K mg base cm k C x ps sp:=by
 obtain⟨fd,h1,h2⟩:=d.ok (R:=fun fd=>aY P w K mg base (c8 P w) cm k f fd ps sp) ok b;obtain⟨l,c,z⟩:=d;exact Ax h1 ⟨a,i,z⟩ h2 cl
theorem fX.nw{y:Str}(d:fX K x q st f)(m:mg y=some (.ref C))(g1:makesIn K C=true)(g2:keepIn K (.ref C)=true)(a:findIn K (.ref C) "__init__"=some (some (.ref f)))(i:isFn K (.ref f)=true)(ok:∀fd,gM K x q st f fd→aY P w K mg base (c8 P w) cm k f fd ps sp)(b:Nt x q st ps):lS P w K mg base cm k y C ps [] sp:=by
 obtain⟨fd,h1,h2⟩:=d.ok (R:=fun fd=>aY P w K mg base (c8 P w) cm k f fd ps sp) ok b;exact wk h1 ⟨g1,a,i,g2⟩ m h2 .nil
structure L1(K:Frag)(x:Str)(C:Addr):Prop where
 a:nsIn K mainGlobals x=some (some (.ref C))
 b:excIn K C [.type "ValueError", .type "Exception", .type "BaseException", .type "object"] "ValueError.__new__"=true
 c:findIn K (.ref C) "__class__"=some (some (.builtin "object.__class__"))
 d:mroIn K C (.type "object")=some true
 e:mroIn K C (.type "BaseException")=some true
 f:findIn K (.ref C) "__getattribute__"=some (some (.builtin "BaseException.__getattribute__"))
 g:findIn K (.ref C) "__getattr__"=some none
 h:instIn K (.ref C) (.type "tuple")=some false
 i:keepIn K (.ref C)=true
theorem L1.er{x:Str}{C:Addr}(e:L1 K x C)(X:K.In h)(G:h.Ns mainGlobals mg):QF.Er K mg x C:=⟨mg_of X G e.a,e.b,e.c,e.d,e.e,e.f,e.g,e.h,e.i⟩
structure L3(K:Frag)(x:Str)(C:Addr):Prop where
 a:nsIn K mainGlobals x=some (some (.ref C))
 b:makesIn K C=true
 c:keepIn K (.ref C)=true
def X2(K:Frag)(x:Str):Prop:=nsIn K mainGlobals x=some none
structure TZ(K:Frag):Prop where
 a:X2 K "len"
 b:X2 K "range"
 c:X2 K "isinstance"
 d:X2 K "int"
 e:X2 K "bool"
 f:X2 K "str"
 g:X2 K "list"
 h:X2 K "tuple"
 i:X2 K "dict"
 j:X2 K "all"
 k:X2 K "any"
 l:X2 K "min"
 m:X2 K "max"
 n:X2 K "enumerate"
 o:X2 K "ValueError"
theorem mj{x:Str}(z:X2 K x)(X:K.In h)(G:h.Ns mainGlobals mg):mg x=none:=mg_none_of X G z
theorem TZ.tb(z:TZ K)(X:K.In h)(G:h.Ns mainGlobals mg):QF.TB mg:=⟨mj z.a X G,mj z.b X G,mj z.c X G,mj z.d X G,mj z.e X G,mj z.f X G,mj z.g X G,mj z.h X G,mj z.i X G,mj z.j X G,mj z.k X G,mj z.l X G,mj z.m X G,mj z.n X G,mj z.o X G⟩
end
end L2
namespace QF
open PySem L2
inductive rz(CF:Addr)(vs:List V)(H:Hp)(Q:VK)(u3:XK):Prop
 |mk (y:Addr) (P:Addr→Prop) (d:Fd) (dy wy rw pr:Addr) (mf i7:List V) (_:vs=[.ref y]) (_:wW P H CF y d dy wy rw pr mf i7) (_:d.row.length=d.way.length) (_:d.way≠[]) (_:∀H',au H H'→Q (.bl true) H'):rz CF vs H Q u3
theorem E9(g:Pr→Option Int)(o p:Int)(ps:List Pr):(wV g o p ps).length=ps.length:=by simp[wV]
end QF
namespace L2
open PySem PySem.Spec PyProof.Rows PySem.W PySem.Calls
open AutoSeq1 (wpAny_loadPart')
end L2
namespace QF
open PySem L2 PySem.Spec PyProof.Rows PySem.W PySem.Calls
section
variable{X:Cx}
end
theorem Yh{α:Type}{R:α→α→Prop}(as:∀a b,R a b→¬R b a):∀{l m:List α},l.Pairwise R→m.Pairwise R→(∀x,x∈l↔x∈m)→l=m
 |[],[],_,_,_=>rfl
 |[],b::m,_,_,h=>by have:=(h b).mpr Xr;cases this
 |a::l,[],_,_,h=>by have:=(h a).mp Xr;cases this
 |a::l,b::m,hl,hm,h=>by
  have Gu:=List.pairwise_cons.mp hl;have Av:=List.pairwise_cons.mp hm;have e:a=b:=by
   rcases List.mem_cons.mp ((h a).mp Xr)with e|e
   ·exact e
   ·rcases List.mem_cons.mp ((h b).mpr Xr)with e2|e2
    ·exact e2.symm
    ·exact absurd (Av.1 a e) (as _ _ (Gu.1 b e2))
  subst e
  congr 1
  refine Yh as Gu.2 Av.2 fun x=>⟨fun hx=>?_,fun hx=>?_⟩
  ·rcases List.mem_cons.mp ((h x).mp (by simp[hx]))with e|e
   ·subst e;exact absurd (Gu.1 x hx) (as _ _ (Gu.1 x hx))
   ·exact e
  ·rcases List.mem_cons.mp ((h x).mpr (by simp[hx]))with e|e
   ·subst e;exact absurd (Av.1 x hx) (as _ _ (Av.1 x hx))
   ·exact e
theorem Jl(p q:Pr)(h:iL p q=true):¬iL q p=true:=fun z=>by rw[YD h]at z;cases z
inductive Rn(o p least:Int):(Nat→Nat→Option Int)→List Fd→Prop
 |stop {f:Nat→Nat→Option Int} (_:Stop f o p least):Rn o p least f []
 |round {f:Nat→Nat→Option Int} {W:Int} {gs:List (List Pr)} {ds rs:List Fd} (_:lA f o p least W gs ds) (_:Rn o p least (j5 f gs.flatten) rs):Rn o p least f (ds++rs)
section
variable{X:Cx}
inductive Dh(K:Frag)(x:V)(y:V)(H:Hp)(Q:VK):Prop
 |mk (p q:Addr) (xs ys:List V) (ps:List Pr) (_:x= .ref p) (_:y= .ref q) (_:iF K H p xs) (_:iF K H q ys) (_:f' H xs ps) (_:f' H ys ps) (_:Q (.bl false) H):Dh K x y H Q
theorem rA(K:Frag)(hu:X.A.units+1<cLine)(hK:X.K=K:=by rfl):qE X (compareOp .NotEq) (Dh K):=by
 subst hK;intro pins s σ H x y v u Q I rx ry h;obtain⟨p,q,xs,ys,ps,rfl,rfl,hp,hq,P1,P2,k⟩:=h;cases rx;cases ry;obtain⟨its,r,pl,hz⟩:=I.list hp;obtain⟨gD,r2,Ln,O7⟩:=I.list hq;have l1:=r.length;have l2:=r2.length;have c1:=P1.1;have c2:=P2.1;obtain⟨⟨cls,dd,data,sl⟩,ho,hc,n,hd⟩:=id pl.isList;obtain⟨⟨Lo,F8,data2,XB⟩,AE,ur,n2,hd2⟩:=id Ln.isList;simp only at hc hd ur hd2;subst hc hd ur hd2;have hsz:its.toArray.size=gD.toArray.size:=by rw[List.size_toArray,List.size_toArray];omega
 refine richCompare_meets_room (op:= .NotEq) ⟨_,ho,rfl⟩ ⟨_,AE,rfl⟩ F.slot_list_ne F.entry_list_ne (F.args_list_ne_2 _ _) (SeqAt.list_neAt p q its.toArray gD.toArray n n2 dd F8 sl XB hsz fun _=>true) ⟨ho,AE,fun j h1 h2=>?_,?_⟩ Xs
 ·have F5:j<ps.length:=by simp at h1;omega
  have ej:ps[j]?=some ps[j]:=by simp[F5]
  generalize ps[j]=g at ej;obtain⟨a1,e1,g1⟩:=P1.2 j g ej;obtain⟨a2,e2,g2⟩:=P2.2 j g ej;obtain⟨u1,UU,UW⟩:=r.get e1;obtain⟨u2,UX,UY⟩:=r2.get e2;cases UW;cases UY;have k1:its.toArray[j]= .ref a1:=by simpa[List.getElem?_eq_some_iff]using(Xd UU).2
  have k2:gD.toArray[j]= .ref a2:=by simpa[List.getElem?_eq_some_iff]using(Xd UX).2
  rw[k1,k2];by_cases ha:a1=a2
  ·subst ha;exact SeqAt.EqAt.same _
  ·obtain⟨PX,r3,UZ,Wz⟩:=I.tuple (xs:=ke g) (.of g1);obtain⟨PY,r4,U0,WA⟩:=I.tuple (xs:=ke g) (.of g2);have:=SeqAt.EqAt.of_refs ha (SeqAt.RcAt.tuples (A:=X.A.in1) UZ U0 (show X.A.in1.units<cLine from hu) (wz r3 r4 rfl rfl));have e9:true=decide (g=g):=XA;have h3:PX.toArray.size=(ke g).length:=by rw[List.size_toArray,←r3.length]
   have h4:PY.toArray.size=(ke g).length:=by rw[List.size_toArray,←r4.length]
   rw[h3,h4]at this;rw[e9,←Yl,←l'];exact this
 ·refine⟨(fun x=>nomatch x), .bl false,H,I,?_,k⟩;have e9:((List.range its.toArray.size).all fun _=>true)=true:=XA;rw[e9];rfl
end
end QF
namespace QF
open PySem L2
def Nu(c:Case):Prop:=∀ds f,Reach (j1 c []) c.out c.into c.least ds f→ds.length≤20
inductive u0(CF:Addr)(vs:List V)(H:Hp)(Q:VK)(u3:XK):Prop
 |mk (a:Addr) (c:Case) (f g m l:Addr) (us:List V) (most:Nat) (_:vs=[.ref a]) (_:jZ H a c f g m l us) (_:gO most c) (_:most≤50) (_:Nu c) (_:∀es,ja (j1 c []) c.out c.into c.least es→∀H' r vs,au H H'→H r=none→H' r=some (.lst vs)→ck (fun _=>True) H' CF vs es→Q (.ref r) H'):u0 CF vs H Q u3
theorem DF{m:Nat}{c:Case}(k:gO m (dW c)):Nu (dW c):=fun _ _ r=>DE k r
end QF
namespace L2
open PySem PySem.Spec PyProof.Rows PySem.W PySem.Calls
open AutoSeq1 (wpAny_loadPart')
end L2
namespace QF
open PySem L2 PySem.Spec PyProof.Rows PySem.W PySem.Calls
section
variable{X:Cx}
end
end QF
namespace QF
open PySem L2
end QF
namespace QF
open PySem L2
def kf:Int→Nat→List Pr
 | _,0=>[]
 |a,m+1=>(a,a)::kf (a+1) m
theorem lB:∀(m:Nat)(a:Int),(kf a m).length=m
 |0,_=>rfl
 |m+1,a=>by simp[kf,lB m]
theorem u7:∀(m:Nat)(a:Int)(k:Nat),k<m→(kf a m)[k]?=some (a+k,a+k)
 |m+1,a,0,_=>by simp[kf]
 |m+1,a,k+1,h=>by
  have:=u7 m (a+1) k (Xx);simp only[kf,List.getElem?_cons_succ,this]
  congr 2<;>omega
theorem Yw{m:Nat}{a:Int}{q:Pr}(h:q∈kf a m):∃k:Nat,k<m∧q=(a+k,a+k):=by
 obtain⟨k,hk,e⟩:=List.mem_iff_getElem.mp h;rw[lB]at hk;have:=u7 m a k hk;rw[List.getElem?_eq_getElem (by rw[lB];exact hk),e]at this;exact⟨k,hk,Option.some.inj this⟩
theorem YF:∀(m:Nat)(a:Int),(kf a m).Pairwise vK
 |0,_=> .nil
 |m+1,a=> .cons (fun q hq=>by
  obtain⟨k,_,rfl⟩:=Yw hq;constructor<;>simp<;>omega) (YF m (a+1))
theorem wX:∀(m:Nat)(a:Int)(j:Nat),j≤m→(kf a m).take j=kf a j
 | _,_,0,_=>by simp[kf]
 |m+1,a,j+1,h=>by simp[kf,wX m (a+1) j Xs]
theorem YM{g:Pr→Option Int}{o p S:Int}:∀(m:Nat)(a:Int),(∀k:Nat,k<m→g (a+k,a+k)=some S)→vl g o p (kf a m)=m*S
 |0,_,_=>by simp[kf,vl]
 |1,a,h=>by
  have:=h 0 (Xx);have e0:(a+((0:Nat):Int))=a:=Xx;rw[e0]at this;simp[kf,vl,this]
 |m+2,a,h=>by
  have h0:=h 0 (Xx);have e0:(a+((0:Nat):Int))=a:=Xx;rw[e0]at h0;have ih:=YM (g:=g) (o:=o) (p:=p) (S:=S) (m+1) (a+1) fun k hk=>by
   have:=h (k+1) (Xx);have e:a+((k+1:Nat):Int)=a+1+(k:Int):=Xx;rw[e]at this;exact this
  have e:kf a (m+2)=(a,a)::(a+1,a+1)::kf (a+1+1) m:=rfl;have e2:kf (a+1) (m+1)=(a+1,a+1)::kf (a+1+1) m:=rfl;rw[e2]at ih;rw[e];simp only[vl,h0,Option.getD_some,ih,gp];have e3:a+1-a-1=0:=Xx;rw[e3,Int.mul_zero,Int.mul_zero];have e4:((m+2:Nat):Int)*S=((m+1:Nat):Int)*S+S:=by
   rw[show((m+2:Nat):Int)=((m+1:Nat):Int)+1 by omega,Int.add_mul];omega
  rw[e4];omega
theorem Gv:∀{l:List Pr}{a N:Int},l.Pairwise vK→(∀q∈l,(a≤q.1∧q.1<N)∧(a≤q.2∧q.2<N))→a≤N→a+l.length≤N∧(a+l.length=N→l=kf a l.length)
 |[],a,N,_,_,h=>by simp[kf,h]
 |q::r,a,N,hp,hb,h=>by
  have PZ:=List.pairwise_cons.mp hp;have hq:=hb q Xr;obtain⟨i1,i2⟩:=Gv (l:=r) (a:=a+1) (N:=N) PZ.2 (fun x hx=>by
   have h1:=PZ.1 x hx;have h2:=hb x (by simp[hx]);have h3:=h1.1;have h4:=h1.2;refine⟨⟨Xx,h2.1.2⟩,⟨Xx,h2.2.2⟩⟩) (Xx)
  rw[List.length_cons];refine⟨Xx,fun e=>?_⟩;have er:=i2 Xs;have eq:q=(a,a):=by
   cases r with
   |nil=>
    simp at e;exact Prod.ext (by simp;omega) (by simp;omega)
   |cons x s=>
    rw[List.length_cons]at er;have ex:x=(a+1,a+1):=(List.cons.inj er).1;have h1:=PZ.1 x (XA);rw[ex]at h1;have h3:q.1<a+1:=h1.1;have h4:q.2<a+1:=h1.2;exact Prod.ext (by simp;omega) (by simp;omega)
  rw[eq];show _=(a,a)::kf (a+1) r.length;rw[←er]
theorem wY:∀(m:Nat)(a:Int),kf a (m+1)=kf a m++[(a+m,a+m)]
 |0,a=>by simp[kf]
 |m+1,a=>by
  show(a,a)::kf (a+1) (m+1)=(a,a)::(kf (a+1) m++_)
  rw[wY m (a+1)];have e:a+1+(m:Int)=a+((m+1:Nat):Int):=Xx;rw[e]
theorem E_{z:Str}(h:p6 z=true):z.length≤12:=by
 unfold p6 at h;simp only[Bool.and_eq_true,decide_eq_true_eq]at h;exact h.1.2
theorem Yz{r:Int}(h0:0≤r)(h1:r<26):∃c,si F1.cps.toList r=some c:=by
 have:=YQ (r:=r);rw[Int.emod_eq_of_lt h0 h1]at this;exact⟨_,this⟩
theorem Fb(xs:List V):uf xs (some 1) none=xs.drop 1:=by
 have e:=HT.Ek xs.length 0 1;have e1:((1:Nat):Int)=1:=rfl;rw[e1]at e;unfold uf;rw[HT.v_,e];cases xs with
 |nil=>rfl
 |cons x r=>
  have:min 1 (x::r).length=1:=XA;rw[this];simp
theorem jZ.Jm{H:Hp}{b:Addr}{c:Case}{x1 x2 m l:Addr}{us:List V}{v:Int}(C:jZ H b c x1 x2 m l us):jZ (upd H m (.lst ([.int c.same, .int c.out, .int c.into, .int c.least].set 3 (.int v)))) b {c with least:=v} x1 x2 m l us:=by
 have key:∀{x:Addr}{ws:List V},H x=some (.lst ws)→(∀i,ws[0]?≠some (V.int i))→x≠m:=fun{x ws} h n e=>by
  rw[e,C.nu]at h;have:=HO.lst.inj (Option.some.inj h);subst this;exact n _ rfl
 have kw:∀ws:List Str,∀i,(ws.map V.str)[0]?≠some (V.int i):=fun ws i e=>by cases ws<;>cases e
 refine⟨?_,?_,?_,ae,?_,⟨C.tr.1,fun i f e=>?_⟩⟩
 ·rw[af (key C.ca fun i e=>by cases e)];exact C.ca
 ·rw[af (key C.fi (kw _))];exact C.fi
 ·rw[af (key C.se (kw _))];exact C.se
 ·rw[af (key C.ne fun i e=>by
   have t1:=C.tr.1;have h0:0<us.length:=(Xd e).1;obtain⟨t,h1,_⟩:=C.tr.2 0 c.fs[0] (by simp[show 0<c.fs.length by omega]);rw[h1]at e;cases e)]
  exact C.ne
 ·obtain⟨t,h1,h2⟩:=C.tr.2 i f e;exact⟨t,h1,by rw[af (fun e=>by rw[e,C.nu]at h2;cases h2)];exact h2⟩
section
variable{m:Nat}{c:Case}
theorem u9(e:c.ys=c.xs){k:Nat}(h:k<c.xs.length):lf (j1 c []) ((0:Int)+k,(0:Int)+k)=some c.same:=by
 rw[rq];have e1:((0:Int)+(k:Int))=(k:Int):=Xx;rw[e1];have hx:wd c.xs ((k:Nat):Int)=some c.xs[k]:=by rw[qQ];simp[h]
 rw[Case.pw_of (p:=((k:Int),(k:Int))) hx (by rw[e];exact hx)];simp[du]
theorem u_(ok:gO m c)(e:c.ys=c.xs){ws:List Pr}(w:Wy (lf (j1 c [])) ws):vl (lf (j1 c [])) c.out c.into ws≤c.xs.length*c.same∧(c.xs.length*c.same≤vl (lf (j1 c [])) c.out c.into ws→ws=kf 0 c.xs.length):=by
 have h1:=DC (g:=lf (j1 c [])) (S:=c.same) ok.out.1 ok.into.1 w.up fun q hq=>by
  obtain⟨v,hv⟩:=Option.isSome_iff_exists.mp (w.ok q hq);exact⟨v,hv,pw_le ok.good (by rw[rq]at hv;exact hv)⟩
 obtain⟨h2,h3⟩:=Gv (a:=0) (N:=(c.xs.length:Int)) w.up (fun q hq=>by
  obtain⟨v,hv⟩:=Option.isSome_iff_exists.mp (w.ok q hq);rw[rq]at hv;have:=c.pw_in hv;rw[e]at this;exact this) (Xx)
 have hs:=ok.same.1;have h4:(ws.length:Int)*c.same≤c.xs.length*c.same:=Int.mul_le_mul_of_nonneg_right Xs (Xx);refine⟨Xx,fun h5=>?_⟩;have h6:(c.xs.length:Int)≤ws.length:=Int.le_of_mul_le_mul_right (by omega:(c.xs.length:Int)*c.same≤ws.length*c.same) (Xx);have h7:ws.length=c.xs.length:=Xx;have:=h3 Xs;rw[h7]at this;exact this
theorem Fe(e:c.ys=c.xs)(hn:0<c.xs.length):Wy (lf (j1 c [])) (kf 0 c.xs.length)∧vl (lf (j1 c [])) c.out c.into (kf 0 c.xs.length)=c.xs.length*c.same:=by
 refine⟨⟨fun z=>?_,fun q hq=>?_,YF _ _⟩,YM _ _ fun k hk=>u9 e hk⟩
 ·have:=congrArg List.length z;rw[lB,List.length_nil]at this;omega
 ·obtain⟨k,hk,rfl⟩:=Yw hq;rw[u9 e hk];rfl
theorem Reach.on{f0 f:Nat→Nat→Option Int}{o p least:Int}{ds:List Fd}(r:Reach f0 o p least ds f):∀d∈ds,∀q∈d.pairs,∃ps,Wy (lf f0) ps∧vl (lf f0) o p ps=d.worth∧q∈ps:=by
 induction r with
 |start=>exact fun d h=>by cases h
 |@round done f W gs ds r R ih=>
  intro d hd q hq;rcases List.mem_append.mp hd with hd|hd
  ·exact ih d hd q hq
  have ap:=r.apart;have hg:d.pairs∈gs:=by rw[←R.DS];exact List.mem_map.mpr ⟨d,hd,rfl⟩
  obtain⟨ps,⟨w,v⟩,hm⟩:=(R.told.mem hg hq).on;have cg:∀q∈ps,lf f q=lf f0 q:=fun q hq=>ap.sub q (w.ok q hq)
  exact⟨ps,w.congr cg,by rw[←gI o p cg,v,(R.ok d hd).worth],hm⟩
theorem DG(ok:gO m c)(e:c.ys=c.xs)(hn:0<c.xs.length)(hl:c.xs.length*c.same≤c.least):Nu c:=fun ds f r=>by
 have hz:∀d∈ds,((0:Int),(0:Int))∈d.pairs:=fun d hd=>by
  have F:=r.mi d hd;have h1:=F.least;have:=(u_ ok e F.way).2 (by rw[F.worth];omega);refine F.sub _ ?_;rw[this];have:=u7 c.xs.length 0 0 hn;exact Xi this
 match ds,hz,r.apart.ap with
 |[],_,_=>simp
 |[a],_,_=>simp
 |a::b::t,hz,ap=>exact absurd (hz b (XA)) ((List.pairwise_cons.mp ap).1 b (XA) _ (hz a (XA)))
structure Jn(n:Nat)(S:Int)(d:Fd):Prop where
 worth:d.worth=S*n
 way:d.way=kf 0 n
 pairs:d.pairs=kf 0 n
 row:d.row=(List.range n).map fun k:Nat=>S*((k:Int)+1)
theorem itself(ok:gO m c)(e:c.ys=c.xs)(hn:0<c.xs.length)(hl:c.least≤c.xs.length*c.same){es:List Fd}(t:ja (j1 c []) c.out c.into c.least es):∃d XR,es=d::XR∧Jn c.xs.length c.same d∧∀x∈XR,x.worth<d.worth:=by
 obtain⟨U1,vd⟩:=Fe e hn;have top:∀x∈es,x.worth≤c.xs.length*c.same∧(c.xs.length*c.same≤x.worth→x.way=kf 0 c.xs.length):=fun x hx=>by
  have F:=t.mi x hx;have:=u_ ok e F.way;rw[F.worth]at this;exact this
 obtain⟨d,hd,hw,_⟩:=t.met U1 (by rw[vd];exact hl);rw[vd]at hw;have z0:((0:Int),(0:Int))∈kf 0 c.xs.length:=Xi (u7 c.xs.length 0 0 hn);have hz:∀x∈es,c.xs.length*c.same≤x.worth→((0:Int),(0:Int))∈x.pairs:=fun x hx h=>(t.mi x hx).sub _ (by rw[(top x hx).2 h];exact z0)
 have L4:=top d hd;have ew:d.worth=c.xs.length*c.same:=Xx;obtain⟨pre,post,rfl⟩:=List.append_of_mem hd;have ap:=t.apart;have sr:=t.qT;have As:pre=[]:=by
  cases pre with
  |nil=>rfl
  |cons x r=>
   exfalso;have h1:=(List.pairwise_append.mp sr).2.2 x (XA) d (XA);have h2:=(List.pairwise_append.mp ap).2.2 x (XA) d (XA);have h3:d.worth≤x.worth:=by
    unfold Jj at h1;split at h1
    ·omega
    ·simp at h1;omega
   exact h2 _ (hz x (XA) (Xx)) (hz d hd Xs)
 subst As;refine⟨d,post,rfl,⟨by rw[ew,Int.mul_comm],L4.2 hw,?_,?_⟩,fun x hx=>?_⟩
 ·obtain⟨ds,f,r,_,pm⟩:=t.Nr;refine Yh Jl (t.mi d hd).qT ((YF c.xs.length 0).imp fun{a b} h=>?_) fun q=>⟨fun hq=>?_,fun hq=>?_⟩
  ·have h1:=h.1;unfold iL;rw[if_neg Xs];exact decide_eq_true h1
  ·obtain⟨ps,w,v,hm⟩:=r.on d (pm.mem_iff.mp hd) q hq;have:=(u_ ok e w).2 (by rw[v];exact hw);rw[←this];exact hm
  ·exact(t.mi d hd).sub q (by rw[L4.2 hw];exact hq)
 ·rw[(t.mi d hd).row,L4.2 hw];unfold wV;rw[lB];apply List.map_congr_left;intro k hk;have hk:=List.mem_range.mp hk;rw[wX _ _ _ (Xx),YM (S:=c.same) _ _ fun j hj=>u9 e Xs];rw[Int.mul_comm];rfl
 ·have h1:=top x (by simp[hx]);rcases Int.lt_or_le x.worth (c.xs.length*c.same)with h|h
  ·omega
  ·have h2:=(List.pairwise_cons.mp ap).1 x hx;exact absurd (hz x (by simp[hx]) h) (h2 _ (hz d hd hw))
end
section
variable{φ ψ:Pr→Pr}{o p o' p' W least:Int}{f g:Nat→Nat→Option Int}
end
end QF
namespace L2
open PySem PySem.Spec PyProof.Rows PySem.W PySem.Calls
open AutoSeq1 (wpAny_loadPart')
open PySem.SeqAt PySem.MeetsSeq PySem.MeetsSeq2 PySem.MeetsSeq3 PySem.SeqRoads2
open PySem.SeqAt
section
variable{prog:Program}{w:World}{A:Around}{E:Value→Shared→Prop}{s:Shared}
end
end L2
namespace QF
open PySem L2 PySem.Spec PyProof.Rows PySem.W PySem.Calls
end QF
namespace P0
open PySem L2 QF
def top(i:Nat):Stmt:=PySem.Challenge.pw_quotefind_k28_itself.main.body.getD i (.Pass ⟨0,0,0,0⟩)
abbrev fD:Stmt:=top 28
abbrev lC:Stmt:=top 29
abbrev jJ:Stmt:=top 34
abbrev iq:Stmt:=top 35
abbrev fE:Stmt:=top 36
abbrev gu:Stmt:=top 37
abbrev bh:Stmt:=inClass (top 38) 0
abbrev dB:Stmt:=inClass (top 38) 1
abbrev jK:Stmt:=top 11
abbrev YJ:Stmt:=top 12
abbrev e7:Stmt:=top 13
abbrev de:Stmt:=inClass (top 14) 1
abbrev dX:Stmt:=inClass (top 14) 0
abbrev gh:Stmt:=inClass (top 14) 2
abbrev dC:Stmt:=inClass (top 14) 4
abbrev cG:Stmt:=inClass (top 14) 3
abbrev eh:Stmt:=inClass (top 14) 5
abbrev gP:Stmt:=inClass (top 14) 6
abbrev e8:Stmt:=inClass (top 20) 0
abbrev mn:Stmt:=top 24
abbrev eA:Stmt:=top 21
abbrev fF:Stmt:=inClass (top 7) 0
abbrev gY:Stmt:=inClass (top 7) 1
abbrev eM:Stmt:=inClass (top 7) 2
abbrev eC:Stmt:=inClass (top 7) 3
abbrev gv:Stmt:=inClass (top 7) 4
abbrev eD:Stmt:=inClass (top 8) 0
abbrev eO:Stmt:=inClass (top 8) 1
abbrev cY:Stmt:=inClass (top 8) 2
abbrev dY:Stmt:=inClass (top 8) 3
abbrev jb:Stmt:=top 9
abbrev lD:Stmt:=top 16
abbrev eW:Stmt:=top 17
abbrev fG:Stmt:=top 22
abbrev jL:Stmt:=top 23
abbrev o7:Stmt:=top 25
abbrev o8:Stmt:=top 40
abbrev jM:Stmt:=top 41
abbrev kD:Stmt:=top 42
abbrev kE:Stmt:=top 43
abbrev fH:Stmt:=top 44
abbrev kF:Stmt:=top 45
abbrev kG:Stmt:=top 46
abbrev jN:Stmt:=top 47
abbrev mq:Stmt:=top 48
abbrev jO:Stmt:=top 49
abbrev kH:Stmt:=top 50
abbrev fI:Stmt:=top 51
abbrev jP:Stmt:=top 52
abbrev kI:Stmt:=top 53
section
variable{P:Program}{w:World}{K:W.Frag}{mg:Str→Option Value}{base:Heap}
variable{dD cI aQ az aA aF ax jn:Addr}
variable(T:TB mg)
theorem mw:aJ ["sign"] ["sign"] (aq fD):=⟨rfl,rfl,rfl,by decide+kernel,rfl,by decide+kernel,by decide+kernel⟩
include T in
theorem my{f:Addr}{fd:FuncData}(F:jY K "is_small_letter" "is_small_letter" fD f fd):aY P w K mg base (c8 P w) true 1 f fd ["sign"] YL:=by
 refine F.gL mw Xu (fun bY A outer s H vs Q E hr h hX=>?_)
 ·obtain⟨i,rfl,_⟩:=h;rfl
 ·obtain⟨c,rfl,q⟩:=h;refine⟨_,(Xh (@aN _ _ _ _ (@t_ _ _ _ _ _ _ _ (@kZ _ _ _ _ _ _ _ _ tN c7 (pv 0) (aX _)) (@t9 _ _ _ _ _ (@kZ _ _ _ _ _ _ _ _ tN (pv 0) c7 (aX _)))))),?_⟩;refine⟨_,rfl,_,_,rfl,rfl,_,rfl,?_⟩;have q:Q (.bl (decide (97≤c)&&decide (c≤122))) H:=q;rw[←O2,←O3]at q;refine bu (fun h=>?_) (fun h=>?_)
  ·refine⟨_,rfl,_,_,rfl,rfl,?_⟩;rw[h,Bool.true_and]at q;exact q
  ·rw[Bool.not_eq_true]at h;rw[h,Bool.false_and]at q;exact q
variable(iO:BL mg "WORD_MOST" (.int 12))
variable(dZ:bZ P w K mg base true 1 "is_small_letter" ["sign"] YL)
theorem Zs:aJ ["text"] ["text"] (aq lC):=⟨rfl,rfl,rfl,by decide+kernel,rfl,by decide+kernel,by decide+kernel⟩
include T iO dZ in
theorem Zb{f:Addr}{fd:FuncData}(F:jY K "is_word" "is_word" lC f fd):aY P w K mg base (c8 P w) true 2 f fd ["text"] uy:=by
 refine F.gL Zs Xu (fun bY A outer s H vs Q E hr h hX=>?_)
 ·obtain⟨i,rfl,_⟩:=h;rfl
 ·obtain⟨z,rfl,hz,q⟩:=h;refine⟨_,(Xj (Xp (@PW.pt _ _ _ (@pw_or _ _ _ _ _ _ _ (@aV _ _ _ _ _ _ _ _ qF (Xb mY Xw T.dI PyProof.Rows.Boot.«len» (W8 (pv 0) ai)) aj (aX _)) (@pw_or1 _ _ _ _ (@aV _ _ _ _ _ _ _ _ vW (Xb mY Xw T.dI PyProof.Rows.Boot.«len» (W8 (pv 0) ai)) (@eX _ _ _ _ iO (Xz) (Xy)) (aX _))))) (Xh (@aN _ _ _ _ gR)) aS) (Xh (@aN _ _ _ _ (Xb (Az K rfl) (by exact rfl) T.Li PyProof.Rows.Boot.«all» (W8 (@lh _ _ _ _ _ _ _ _ _ _ _ _ _ _ (by exact rfl) (show ba ["text"] (aq lC) _ ["sign"] [] []from⟨rfl,by decide+kernel,by decide+kernel,by decide+kernel,rfl,rfl,by decide+kernel,by decide+kernel,by decide+kernel⟩) (@HQ _ _ _ _ (pv 0)) (fun _ _ _ _ _=>(W' (0) (show(["sign"]:List Str).Nodup by decide+kernel) (Or.inl rfl))) (fun _ _ _ _ _=>fA) (fun _ _ _ _ _=>(W9 dZ aT (W8 (pv 0) ai))) (by intro _;rfl)) ai))))),?_⟩;have RM:z.length≤sizeLine:=Nat.le_trans hz (Xy);refine⟨_,rfl,z,rfl,RM,_,_,rfl,rfl,_,rfl,?_⟩;refine bu (fun h=>?_) (fun h=>?_)
  ·have h:((z.length:Nat):Int)<1:=by simpa using h
   refine ko ?_;have e:p6 z=false:=by
    have:¬1≤z.length:=Xx;simp[p6,this]
   have q:=q H (au.refl H);rw[e]at q;exact q
  have h:¬((z.length:Nat):Int)<1:=by simpa using h
  refine⟨_,rfl,z,rfl,RM,_,_,rfl,rfl,_,rfl,?_⟩;refine bu (fun h2=>?_) (fun h2=>?_)
  ·have h2:(12:Int)<((z.length:Nat):Int):=by simpa using h2
   have e:p6 z=false:=by
    have:¬z.length≤12:=Xx;simp[p6,this]
   have q:=q H (au.refl H);rw[e]at q;exact q
  have h2:¬(12:Int)<((z.length:Nat):Int):=by simpa using h2
  have hl:z.length≤12:=Xx;have e:p6 z=z.cps.toList.all low:=by
   have h3:1≤z.length:=Xx;simp[p6,h3,hl]
  refine⟨_,rfl,z,rfl,fun D hD=>?_⟩;refine Cc (fun i ys σ H'=>(∃v,σ=[v])∧ys=(z.cps.toList.take i).map (fun c=>V.bl (low c))∧H'=upd H D (.lst ys)) ⟨⟨_,rfl⟩,rfl,rfl⟩ ?_ ?_
  ·rintro i c ys σ H' hc ⟨⟨v,rfl⟩,hy,rfl⟩;refine kr ?_;refine⟨_,rfl,c,rfl,ae,?_,⟨_,rfl⟩,?_,?_⟩
   ·rw[hy,List.length_map,List.length_take];exact Nat.lt_of_le_of_lt (Nat.min_le_left _ _) (Nat.lt_of_lt_of_le (Nat.lt_of_lt_of_le (Xd hc).1 (by simpa[Str.length]using hl)) (Xy))
   ·rw[hy,List.take_succ,hc];simp
   ·rw[ft]
  ·rintro ys σ H' ⟨_,hy,rfl⟩;have Nv:ys=(z.cps.toList.map low).map V.bl:=by
    rw[hy,List.take_of_length_le (by simp[Str.length])];simp
   rw[Nv];refine⟨D,z.cps.toList.map low,rfl,iF.of ae,?_⟩;have q:=q _ (au.upd hD:au H (upd H D (.lst ((z.cps.toList.map low).map V.bl))));rw[e]at q;have e3:(z.cps.toList.map low).all id=z.cps.toList.all low:=by rw[List.all_map];rfl
   rw[←e3]at q;exact q
theorem su:aJ ["low","number","high"] ["low","number","high"] (aq jJ):=⟨rfl,rfl,rfl,by decide+kernel,rfl,by decide+kernel,by decide+kernel⟩
include T in
theorem sC{f:Addr}{fd:FuncData}(F:jY K "is_between" "is_between" jJ f fd):aY P w K mg base (c8 P w) true 1 f fd ["low","number","high"] l8:=by
 refine F.gL su Xu (fun bY A outer s H vs Q E hr h hX=>?_)
 ·obtain⟨l,n,h,rfl,_⟩:=h;rfl
 ·obtain⟨l,n,h,rfl,q⟩:=h;refine⟨_,(Xh (@aN _ _ _ _ (@t_ _ _ _ _ _ _ _ (@kZ _ _ _ _ _ _ _ _ FF (pv 0) (pv 1) (aX _)) (@t9 _ _ _ _ _ (@kZ _ _ _ _ _ _ _ _ FF (pv 1) (pv 2) (aX _)))))),?_⟩;refine⟨_,rfl,_,rfl,_,_,rfl,rfl,_,rfl,?_⟩;refine bu (fun h1=>?_) (fun h1=>?_)
  ·refine⟨_,rfl,_,rfl,_,_,rfl,rfl,?_⟩;rw[h1,Bool.true_and]at q;exact q
  ·rw[Bool.not_eq_true]at h1;rw[h1,Bool.false_and]at q;exact q
variable(dE:bZ P w K mg base true 1 "is_between" ["low","number","high"] l8)
variable(ir:Er K mg "BadTerms" dD)
theorem p_:aJ ["name","number","low","high"] ["name","number","low","high"] (aq iq):=⟨rfl,rfl,rfl,by decide+kernel,rfl,by decide+kernel,by decide+kernel⟩
include T dE ir in
theorem qb{f:Addr}{fd:FuncData}(F:jY K "check_number" "check_number" iq f fd):aY P w K mg base (c8 P w) true 2 f fd ["name","number","low","high"] (oN dD):=by
 refine F.gL p_ Xu (fun bY A outer s H vs Q E hr h hX=>?_)
 ·obtain⟨nm,n,l,h,rfl,_⟩:=h;rfl
 ·obtain⟨nm,n,l,h,rfl,hn,hl,hh,q⟩:=h;refine⟨_,(Xh (Xp (@dw _ _ _ _ (@cx _ _ _ (W9 dE aT (W8 (pv 2) (W8 (pv 1) (W8 (pv 3) ai)))) (by intro _;rfl))) (Xh (@ij _ _ _ _ _ _ _ _ _ _ hX Xw (by exact rfl) ir.m ir.e (W8 (@lg _ _ _ _ _ _ (@eL _ _ _ _ _ (@oK _ _ _ _ (pv 0)) (@eL _ _ _ _ _ c7 (@eL _ _ _ _ _ (@oK _ _ _ _ (pv 2)) (@eL _ _ _ _ _ c7 (@eL _ _ _ _ _ (@oK _ _ _ _ (pv 3)) uo)))))) ai) (Xy) (Xz) (Xz))) aS)),?_⟩;refine⟨_,rfl,_,rfl,_,rfl,l,n,h,rfl,?_⟩;refine⟨_,rfl,?_⟩;refine bu (fun h1=>?_) (fun h1=>?_)
  ·have h1:inR l n h=false:=(Bool.not_eq_true' _).mp h1;rw[h1]at q;have z1:=m_ (i:=l) (by lia);have z2:=m_ (i:=h) (by lia);have w1:(Str.ofString " lies between ").length=14:=by decide+kernel
   have w2:(Str.ofString " and ").length=5:=by decide+kernel
   have w3:=ll;refine⟨_,rfl, .inl ⟨nm,rfl,aD Xv,nm,rfl,aD ?_,_,rfl,aD ?_,_,rfl, .inr ⟨l,rfl,z1.1,_,rfl,aD ?_,_,rfl,aD ?_,_,rfl, .inr ⟨h,rfl,z2.1,_,rfl,aD ?_,aD ?_,gE,?_⟩⟩⟩⟩
   ·rw[len_app];lia
   ·rw[len_app,len_app];lia
   ·rw[len_app,len_app,len_app];lia
   ·rw[len_app,len_app,len_app,len_app];lia
   ·rw[len_app,len_app,len_app,len_app,len_app];lia
   ·rw[len_app,len_app,len_app,len_app,len_app];lia
   ·exact q
  ·have h1:inR l n h=true:=by
    have h1:¬(!(inR l n h))=true:=h1;simpa using h1
   rw[h1]at q;exact q
variable(bF:BL mg "WORTH_MOST" (.int 999999))
variable(jo:bZ P w K mg base true 2 "is_word" ["text"] uy)
variable(bO:Er K mg "BadNear" cI)
theorem mz:aJ ["x","y","price"] ["x","y","price"] (aq fE):=⟨rfl,rfl,rfl,by decide+kernel,rfl,by decide+kernel,by decide+kernel⟩
include T dE bF jo bO in
theorem mB{f:Addr}{fd:FuncData}(F:jY K "check_near_form" "check_near_form" fE f fd):aY P w K mg base (c8 P w) true 3 f fd ["x","y","price"] (uz cI):=by
 refine F.gL mz Xu (fun bY A outer s H vs Q E hr h hX=>?_)
 ·obtain⟨x,y,p,rfl,_⟩:=h;rfl
 ·obtain⟨x,y,p,rfl,hx,hy,q⟩:=h;have bad:gN x y p=false→∀H',au H H'→E (.ref cI) none H':=fun e=>by rw[e]at q;exact q
  have good:gN x y p=true→∀H',au H H'→Q .cD H':=fun e=>by rw[e]at q;exact q
  refine⟨_,(Xj (Xp (@PW.pt _ _ _ (@pw_or _ _ _ _ _ _ _ (@dw _ _ _ _ (@cx _ _ _ (W9 jo aT (W8 (pv 0) ai)) (by intro _;rfl))) (@pw_or1 _ _ _ _ (@dw _ _ _ _ (@cx _ _ _ (W9 jo aT (W8 (pv 1) ai)) (by intro _;rfl)))))) (Xh (@ij _ _ _ _ _ _ _ _ _ _ hX Xw (by exact rfl) bO.m bO.e (W8 c7 ai) (Xy) (Xz) (Xz))) aS) (Xj (Xp (@aV _ _ _ _ _ _ _ _ iH (pv 0) (pv 1) (aX _)) (Xh (@ij _ _ _ _ _ _ _ _ _ _ hX Xw (by exact rfl) bO.m bO.e (W8 c7 ai) (Xy) (Xz) (Xz))) aS) (Xh (Xp (@dw _ _ _ _ (@cx _ _ _ (W9 dE aT (W8 aj (W8 (pv 2) (W8 (@eX _ _ _ _ bF (Xz) (Xy)) ai)))) (by intro _;rfl))) (Xh (@ij _ _ _ _ _ _ _ _ _ _ hX Xw (by exact rfl) bO.m bO.e (W8 (@lg _ _ _ _ _ _ (@eL _ _ _ _ _ c7 (@eL _ _ _ _ _ (@oK _ _ _ _ (@eX _ _ _ _ bF (Xz) (Xy))) uo))) ai) (Xy) (Xz) (Xz))) aS)))),?_⟩;refine⟨_,rfl,x,rfl,hx,fun H1 s1=>⟨_,rfl,?_⟩⟩;refine bu (fun h1=>?_) (fun h1=>?_)
  ·have h1:(!(p6 x))=true:=h1;exact⟨gE,bad (by simp[gN,(Bool.not_eq_true' _).mp h1]) H1 s1⟩
  have h1:¬(!(p6 x))=true:=h1;have h1:p6 x=true:=by simpa using h1
  refine⟨_,rfl,y,rfl,hy,fun H2 s2=>⟨_,rfl,?_⟩⟩;have s2:=s1.trans s2;refine bu (fun h2=>?_) (fun h2=>?_)
  ·have h2:(!(p6 y))=true:=h2;exact⟨gE,bad (by simp[gN,(Bool.not_eq_true' _).mp h2]) H2 s2⟩
  have h2:¬(!(p6 y))=true:=h2;have h2:p6 y=true:=by simpa using h2
  refine⟨_,rfl,_,rfl,rfl,_,rfl,?_⟩;refine bu (fun h3=>?_) (fun h3=>?_)
  ·have h3:x=y:=by simpa using h3
   exact⟨gE,bad (by simp[gN,h3]) H2 s2⟩
  have h3:¬x=y:=by simpa using h3
  refine⟨_,rfl,0,p,999999,rfl,_,rfl,?_⟩;refine bu (fun h4=>?_) (fun h4=>?_)
  ·have h4:(!(inR 0 p 999999))=true:=h4;have z1:=m_ (i:=999999) (Xx);have w1:(Str.ofString "the price of a near form lies between 0 and ").length=44:=by decide+kernel
   have w3:=ll;refine⟨_,rfl,aD ?_, .inr ⟨999999,rfl,z1.1,_,rfl,aD ?_,aD ?_,gE,?_⟩⟩
   ·rw[len_app];omega
   ·rw[len_app,len_app];omega
   ·rw[len_app,len_app];omega
   ·exact bad (by simp[gN,(Bool.not_eq_true' _).mp h4]) H2 s2
  ·have h4:¬(!(inR 0 p 999999))=true:=h4;have h4:inR 0 p 999999=true:=by simpa using h4
   exact good (by simp[gN,h1,h2,h3,h4]) H2 s2
variable(gJ:BL mg "NEAR_MOST" (.int 60))
variable(d0:bZ P w K mg base true 3 "check_near_form" ["x","y","price"] (uz cI))
theorem eE:aJ ["near","prices","x","y","price"] ["near"] (aq gu):=⟨rfl,rfl,rfl,by decide+kernel,rfl,by decide+kernel,by decide+kernel⟩
include T bO gJ d0 in
theorem rB{f:Addr}{fd:FuncData}(F:jY K "near_prices" "near_prices" gu f fd):aY P w K mg base (c8 P w) true 4 f fd ["near"] (oO cI):=by
 refine F.gL eE Xu (fun bY A outer s H vs Q E hr h hX=>?_)
 ·obtain⟨a,xs,fs,rfl,_⟩:=h;rfl
 ·obtain⟨a,xs,fs,rfl,ha,ht,K2,q⟩:=h;have bad:br fs=false→∀H',au H H'→E (.ref cI) none H':=fun e=>by rw[e]at q;exact q
  have good:br fs=true→∀H' d,au H H'→H d=none→H' d=some (.dT (fs.map ku))→Q (.ref d) H':=fun e=>by rw[e]at q;exact q
  have hu:=hr.units;have hu:(A.deeper (PyProof.Rows.envOfC "near_prices" (aq gu) s.heap.objs.size f bY)).units+1<cLine:=Xx;refine⟨_,(Xj (Xp (@aV _ _ _ _ _ _ _ _ vW (Xb (aK K) (by exact rfl) T.dI PyProof.Rows.Boot.«len» (W8 (pv 0) ai)) (@eX _ _ _ _ gJ (Xz) (Xy)) (aX _)) (Xh (@ij _ _ _ _ _ _ _ _ _ _ hX Xw (by exact rfl) bO.m bO.e (W8 (@lg _ _ _ _ _ _ (@eL _ _ _ _ _ c7 (@eL _ _ _ _ _ (@oK _ _ _ _ (@eX _ _ _ _ gJ (Xz) (Xy))) (@eL _ _ _ _ _ c7 uo)))) ai) (Xy) (Xz) (Xz))) aS) (Xj (W_ (1) eE.nd kj) (Xj (@cy _ _ _ _ _ _ _ _ hX.own Xw (@bB _ K _ _ _ (pv 0) (Xz)) (@iI _ K _ _ _ (3) _ (by exact rfl) (@bI _ _ _ _ _ (W' (2) eE.nd (Or.inl rfl)) (@bI _ _ _ _ _ (W' (3) eE.nd (Or.inl rfl)) (@bI _ _ _ _ _ (W' (4) eE.nd (Or.inl rfl)) iG (Xz)) (Xz)) (Xz)) (Xz) (Xz) (Xz)) (Xj (@a9 _ _ _ _ (W9 d0 hX.pass (W8 (pv 2) (W8 (pv 3) (W8 (pv 4) ai)))) (Xz)) (Xj (Xp (Xm (@qJ _ _ _ _ _ hu (@fv _ _ _ _ _ (W8 (pv 2) (W8 (pv 3) ai))) (pv 1))) (Xh (@ij _ _ _ _ _ _ _ _ _ _ hX Xw (by exact rfl) bO.m bO.e (W8 c7 ai) (Xy) (Xz) (Xz))) aS) (Xh (@la _ _ _ _ _ _ _ _ _ hu (pv 1) (@fv _ _ _ _ _ (W8 (pv 2) (W8 (pv 3) ai))) (pv 4) (by exact rfl))))) (by intro _;rfl)) (Xh (@aN _ _ _ _ (pv 1)))))),?_⟩;refine⟨_,rfl,a,_,rfl, .inl (.of ha),_,_,rfl,rfl,_,rfl,?_⟩;refine bu (fun h1=>?_) (fun h1=>?_)
  ·have h1:(60:Int)<(xs.length:Int):=by simpa using h1
   rw[ht.1]at h1;have z1:=m_ (i:=60) (Xx);have w1:(Str.ofString "there are at most ").length=18:=by decide+kernel
   have w2:(Str.ofString " near forms").length=11:=by decide+kernel
   have w3:=ll;refine⟨_,rfl,aD ?_, .inr ⟨60,rfl,z1.1,_,rfl,aD ?_,_,rfl,aD ?_,aD ?_,gE,?_⟩⟩
   ·rw[len_app];omega
   ·rw[len_app,len_app];omega
   ·rw[len_app,len_app,len_app];omega
   ·rw[len_app,len_app,len_app];omega
   ·exact bad (by have:¬fs.length≤60:=(Xx);simp[br,this]) H (.refl H)
  have h1:¬(60:Int)<(xs.length:Int):=by simpa using h1
  rw[ht.1]at h1;refine fun d hd=>?_
  have WB:H a≠none:=by rw[ha];intro z;cases z
  have fj:a≠d:=aB ha hd;refine⟨_,rfl,a,rfl,⟨xs, .of (by rw[af fj];exact ha)⟩,?_⟩;refine cz (xs:=xs) (fun i σ H'=>(∃u v w,σ=[some (.ref a),some (.ref d),u,v,w])∧H' d=some (.dT ((fs.take i).map ku))∧au H H'∧((fs.take i).all Bn=true)∧((fs.take i).map j7).Nodup) ?_ ?_ ?_ ?_
  ·exact⟨⟨_,_,_,rfl⟩,ae,au.upd hd,rfl, .nil⟩
  ·rintro i σ H' hi ⟨_,_,s1,_⟩;exact .of (s1 _ _ ha)
  ·rintro i x σ H' hx ⟨⟨u,v,w,rfl⟩,hD,s1,bL,DT⟩;have hi:i<fs.length:=by rw[←ht.1];exact(Xd hx).1
   have hf:fs[i]?=some fs[i]:=by simp[hi]
   generalize fs[i]=f0 at hf;obtain⟨t,XC,vN⟩:=ht.2 i f0 hf;rw[hx]at XC;cases XC;obtain⟨x,y,p⟩:=f0;have hm:(x,y,p)∈fs:=Xi hf;obtain⟨lV,P6⟩:=K2.2 _ hm;refine⟨t,_,rfl, .of (s1 _ _ vN),rfl,_,_,rfl,_,_,rfl,_,_,rfl,rfl,?_⟩;refine⟨_,rfl,_,rfl,_,rfl,x,y,p,rfl,lV,P6,?_⟩;refine bu (fun h2=>?_) (fun h2=>?_)
   rotate_left
   ·have h2:Bn (x,y,p)=false:=by simpa[Bn]using h2
    exact fun H2 s2=>bad (Cj hf h2) H2 (s1.trans s2)
   have h2:Bn (x,y,p)=true:=h2;intro H2 s2;have Nw:=s1.trans s2;have kJ:=s2 _ _ hD;refine⟨_,rfl,_,rfl,aD Xr,fun p1 JR=>?_⟩;have n1:d≠p1:=aB kJ JR;refine⟨_,rfl,d,_,rfl, .t (k:=j7 (x,y,p)) (by rw[af n1];exact kJ) ae,_,rfl,?_⟩;refine bu (fun h3=>?_) (fun h3=>?_)
   ·obtain⟨v3,h3⟩:=Option.isSome_iff_exists.mp h3;exact⟨gE,bad (AA hf (HV h3)) _ (Nw.eQ (Nw.free JR))⟩
   have h3:bj ((fs.take i).map ku) (j7 (x,y,p))=none:=by simpa using h3
   have s3:au H (upd H2 p1 (.tup [.str x, .str y])):=Nw.eQ (Nw.free JR);refine⟨_,rfl,_,rfl,_,rfl,_,rfl,aD Xr,fun p2 BQ=>?_⟩;have A8:upd H2 p1 (.tup [.str x, .str y]) d=some (.dT ((fs.take i).map ku)):=by rw[af n1];exact kJ
   have n2:d≠p2:=aB A8 BQ;have hlen:((fs.take i).map ku).length<sizeLine:=a_ (by rw[List.length_map,List.length_take];omega);refine⟨d,_,rfl, .t (k:=j7 (x,y,p)) (by rw[af n2];exact A8) ae hlen,?_⟩;refine⟨⟨_,_,_,rfl⟩,?_,?_,?_,?_⟩
   ·rw[ae,qG _ h3,AB hf];rfl
   ·exact(s3.eQ (s3.free BQ)).eQ hd
   ·rw[List.take_succ,hf,List.all_append,bL];simp[h2]
   ·rw[List.take_succ,hf,List.map_append];have:=Lj h3;refine List.nodup_append.mpr ⟨DT,XA,?_⟩;intro a1 X6 b1 mR e;have mR:b1=j7 (x,y,p):=by simpa using mR
    rw[e,mR]at X6;exact this X6
  ·rintro σ H' ⟨⟨u,v,w,rfl⟩,hD,s1,bL,DT⟩;rw[ht.1,List.take_length]at hD bL DT;refine⟨_,rfl,good ?_ H' d s1 hd hD⟩;have:fs.length≤60:=Xx;simp[br,this,bL,DT]
variable(iP:BL mg "PART_MOST" (.int 100))
variable(bX:bZ P w K mg base true 2 "check_number" ["name","number","low","high"] (oN dD))
variable(gw:bZ P w K mg base true 4 "near_prices" ["near"] (oO cI))
variable(Tc:Ck K aQ)
theorem nC:aJ ["self","same","out","into","least","part","near"] ["self","same","out","into","least","part","near"] (aq bh):=⟨rfl,rfl,rfl,by decide+kernel,rfl,by decide+kernel,by decide+kernel⟩
include T bF iP bX gw Tc in
theorem nE{f:Addr}{fd:FuncData}(F:gM K "__init__" "Terms.__init__" bh f fd):aY P w K mg base (c8 P w) true 5 f fd ["self","same","out","into","least","part","near"] (qv aQ dD cI):=by
 refine F.gL nC Xu (fun bY A outer s H vs Q E hr h hX=>?_)
 ·obtain⟨x,dx,n,nv,xs,fs,rfl,_⟩:=h;rfl
 ·obtain⟨x,dx,n,nv,xs,fs,rfl,hx,Cv,U2,K2,q⟩:=h;have bad:ik n=false→E (.ref dD) none H:=fun e=>by rw[e]at q;exact q H .refl
  refine⟨_,(Xj (@a9 _ _ _ _ (W9 bX hX.pass (W8 c7 (W8 (pv 1) (W8 aj (W8 (@eX _ _ _ _ bF (Xz) (Xy)) ai))))) (Xz)) (Xj (@a9 _ _ _ _ (W9 bX hX.pass (W8 c7 (W8 (pv 2) (W8 aj (W8 (@eX _ _ _ _ bF (Xz) (Xy)) ai))))) (Xz)) (Xj (@a9 _ _ _ _ (W9 bX hX.pass (W8 c7 (W8 (pv 3) (W8 aj (W8 (@eX _ _ _ _ bF (Xz) (Xy)) ai))))) (Xz)) (Xj (@a9 _ _ _ _ (W9 bX hX.pass (W8 c7 (W8 (pv 4) (W8 aj (W8 (@eX _ _ _ _ bF (Xz) (Xy)) ai))))) (Xz)) (Xj (@a9 _ _ _ _ (W9 bX hX.pass (W8 c7 (W8 (pv 5) (W8 aj (W8 (@eX _ _ _ _ iP (Xz) (Xy)) ai))))) (Xz)) (Xj (Xq K (pv 0) (pv 1)) (Xj (Xq K (pv 0) (pv 2)) (Xj (Xq K (pv 0) (pv 3)) (Xj (Xq K (pv 0) (pv 4)) (Xj (Xq K (pv 0) (pv 5)) (Xn (Xq K (pv 0) (@mV _ _ _ _ _ _ _ _ (Xm (@oF _ _ _ _ _ (pv 6))) (@cA _ _ _ _ ai) (@hJ _ _ _ _ _ _ _ _ _ (eU K) (by exact rfl) T.jE PyProof.Rows.Boot.«list» (W8 (pv 6) ai) (Xy) (Xy) (Xz) (Xz)))) (Xh (Xq K (pv 0) (W9 gw hX.pass (W8 (Xc K (pv 0)) ai))))))))))))))),?_⟩;refine⟨_,rfl,"same",n.same,1,999999,rfl,by decide+kernel,Xx,Xx,?_⟩;refine bu (fun h1=>?_) (fun h1=>bad (by simp[ik,h1]));refine⟨_,rfl,"out",n.out,0,999999,rfl,by decide+kernel,Xx,Xx,?_⟩;refine bu (fun h2=>?_) (fun h2=>bad (by simp[ik,h2]));refine⟨_,rfl,"into",n.into,0,999999,rfl,by decide+kernel,Xx,Xx,?_⟩;refine bu (fun h3=>?_) (fun h3=>bad (by simp[ik,h3]));refine⟨_,rfl,"least",n.least,1,999999,rfl,by decide+kernel,Xx,Xx,?_⟩;refine bu (fun h4=>?_) (fun h4=>bad (by simp[ik,h4]));refine⟨_,rfl,"part",n.part,1,100,rfl,by decide+kernel,Xx,Xx,?_⟩;refine bu (fun h5=>?_) (fun h5=>bad (by simp[ik,h5]));have bL:ik n=true:=by simp[ik,h1,h2,h3,h4,h5]
  rw[bL]at q;have hl:∀k:Nat,k<10→k<1000:=fun k h=>Xx
  refine⟨_,rfl,_,rfl,x,aQ,dx,_,rfl,hx,Tc.cl,Tc.same,Xy,?_⟩;refine⟨_,rfl,_,rfl,x,aQ,dx,_,rfl,ae,Tc.cl,Tc.out,?_,?_⟩
  ·exact hl _ (by have:=aU "same" (.int n.same) [];simp at this;omega)
  refine⟨_,rfl,_,rfl,x,aQ,dx,_,rfl,ae,Tc.cl,Tc.into,?_,?_⟩
  ·exact hl _ (Nat.lt_of_le_of_lt (aU _ _ _) (by have:=aU "same" (.int n.same) [];simp at this;omega))
  refine⟨_,rfl,_,rfl,x,aQ,dx,_,rfl,ae,Tc.cl,Tc.least,?_,?_⟩
  ·show([("same", .int n.same),("out", .int n.out),("into", .int n.into)]:List (Str×V)).length<1000;simp
  refine⟨_,rfl,_,rfl,x,aQ,dx,_,rfl,ae,Tc.cl,Tc.part,?_,?_⟩
  ·show([("same", .int n.same),("out", .int n.out),("into", .int n.into),("least", .int n.least)]:List (Str×V)).length<1000;simp
  rw[ft,ft,ft,ft,O4];have b5:SameBut x H (upd H x (.ins aQ dx (lT n))):=SameBut.refl.upd;refine⟨fun σ H'=>σ=[some (.ref x),some (.int n.same),some (.int n.out),some (.int n.into),some (.int n.least),some (.int n.part),some nv]∧∃l,H' x=some (.ins aQ dx (bf "near" (.ref l) (lT n)))∧SameBut x H H'∧H' l=some (.lst xs)∧cV H' xs fs∧H l=none,?_,?_⟩
  ·refine⟨_,rfl,_,rfl,?_⟩;rcases U2 with⟨rfl,rfl,rfl⟩|⟨a,rfl,ha,Nx⟩
   ·refine ko ?_;refine⟨aD Xr,fun l mS=>?_⟩;have n1:x≠l:=aB ae mS;refine⟨_,rfl,x,aQ,dx,_,rfl,by rw[af n1,ae],Tc.cl,Tc.near,by simp[lT],rfl,l,ae,?_,?_, .nil,?_⟩
    ·exact(b5.laid (b5.free ae mS)).upd
    ·rw[af (Ne.symm n1),ae]
    ·exact b5.free ae mS
   ·refine bu (fun hh=>absurd hh Xr) (fun _=>?_);have n0:a≠x:=hZ ha hx (by intro z;cases z);refine⟨_,rfl,a,xs,rfl, .inl (.of (by rw[af n0];exact ha)),fun l mS=>?_⟩;have n1:x≠l:=aB ae mS;have b6:SameBut x H (upd (upd H x (.ins aQ dx (lT n))) l (.lst xs)):=b5.laid (b5.free ae mS);refine⟨_,rfl,x,aQ,dx,_,rfl,by rw[af n1,ae],Tc.cl,Tc.near,by simp[lT],rfl,l,ae,b6.upd,?_,?_,?_⟩
    ·rw[af (Ne.symm n1),ae]
    ·exact Nx.but b6.upd hx
    ·exact b5.free ae mS
  ·rintro σ H' ⟨rfl,l,r9,sb,Gu,Nx,U3⟩;refine⟨_,rfl,x,aQ,dx,_,_,rfl,r9,Tc.cl,Tc.near,Ll n l,l,xs,fs,rfl,Gu,Nx,K2,?_⟩;refine bu (fun h6=>?_) (fun h6=>?_)
   ·rw[if_pos rfl,Xo h6]at q;intro H2 d s2 hd hD;have b2:=sb.same s2;have U4:=sb.free r9 hd;refine⟨_,rfl,x,aQ,dx,_,rfl,s2 _ _ r9,Tc.cl,Tc.Cm,?_,?_⟩
    ·have:=aU "near" (.ref l) (lT n);have e5:(lT n).length=5:=rfl;exact hl _ (Xx)
    ·have nl:l≠x:=hZ Gu r9 (by intro z;cases z);have nd:d≠x:=hZ hD (s2 _ _ r9) (by intro z;cases z);have RN:dx≠x:=hZ Cv hx (by intro z;cases z);refine q _ l d b2.upd ⟨?_,?_,?_,?_,?_⟩ U3 U4
     ·rw[ae,O5]
     ·rw[af RN];exact b2 _ _ RN Cv
     ·rw[af nl];exact s2 _ _ Gu
     ·exact Nx.but (SameBut.upd (fun b u n e=>s2 b u e)) r9
     ·rw[af nd];exact hD
   ·rw[if_pos rfl,Xk h6]at q;exact fun H2 s2=>q H2 (sb.same s2)
theorem gS:aJ ["self","x","y","price"] ["self","x","y"] (aq dB):=⟨rfl,rfl,rfl,by decide+kernel,rfl,by decide+kernel,by decide+kernel⟩
include T Tc in
theorem lJ{f:Addr}{fd:FuncData}(F:gM K "pair_worth" "Terms.pair_worth" dB f fd):aY P w K mg base (c8 P w) true 1 f fd ["self","x","y"] (uD aQ):=by
 refine F.gL gS Xu (fun bY A outer s H vs Q E hr h hX=>?_)
 ·obtain⟨t,x,y,n,fs,dx,l,d,xs,rfl,_⟩:=h;rfl
 ·obtain⟨t,x,y,n,fs,dx,l,d,xs,rfl,T1,q⟩:=h;have hu:=hr.units;have hu:(A.deeper (PyProof.Rows.envOfC "Terms.pair_worth" (aq dB) s.heap.objs.size f bY)).units+1<cLine:=Xx;refine⟨_,(Xj (Xp (@aV _ _ _ _ _ _ _ _ iH (pv 1) (pv 2) (aX _)) (Xh (@aN _ _ _ _ (Xc K (pv 0)))) aS) (Xj (W_ (3) gS.nd (@BV _ _ _ _ _ _ _ hu (Xc K (pv 0)) (@fv _ _ _ _ _ (W8 (pv 1) (W8 (pv 2) ai))) ⟨rfl,rfl,rfl,rfl⟩)) (Xj (Xp (Xm (@oF _ _ _ _ _ (pv 3))) (Xh (@aN _ _ _ _ jA)) aS) (Xh (@aN _ _ _ _ (Xe fu (Xc K (pv 0)) (pv 3))))))),?_⟩;refine⟨_,rfl,_,rfl,rfl,_,rfl,?_⟩;refine bu (fun h=>?_) (fun h=>?_)
  ·have h:x=y:=by simpa using h
   have q:=q H (.refl H);rw[show du n.same fs x y=some n.same by simp[du,h]]at q;exact⟨_,rfl,t,aQ,dx,_,_,rfl,T1.ob,Tc.cl,Tc.same,Cn n l d,q⟩
  have h:¬x=y:=by simpa using h
  refine⟨_,rfl,t,aQ,dx,_,_,rfl,T1.ob,Tc.cl,Tc.Cm,Co n l d,d,rfl, .inr ⟨_, .inl T1.di⟩,_,rfl,_,rfl,aD Xr,fun p hp=>?_⟩;have nd:d≠p:=aB T1.di hp;have q:=q _ (au.upd (o:= .tup [.str x, .str y]) hp);refine⟨_, .t (k:=[.inr x, .inr y]) (by rw[af nd];exact T1.di) ae,?_⟩;rw[tO];have T2:jF (upd H p (.tup [.str x, .str y])) aQ t n fs dx l d xs:=⟨au.upd hp _ _ T1.ob,au.upd hp _ _ T1.own,au.upd hp _ _ T1.li,T1.tr.same (au.upd hp),au.upd hp _ _ T1.di⟩
  cases e:dA fs x y with
  |none=>
   rw[show du n.same fs x y=none by simp[du,h,e]]at q;refine⟨_,rfl,_,rfl,?_⟩;exact ko q
  |some v=>
   rw[show du n.same fs x y=some (n.same-v) by simp[du,h,e]]at q;refine⟨_,rfl,_,rfl,?_⟩;refine bu (fun hh=>absurd hh Xr) (fun _=>?_);exact⟨_,rfl,t,aQ,dx,_,_,rfl,T2.ob,Tc.cl,Tc.same,Cn n l d,_,rfl,_,_,rfl,rfl,q⟩
theorem wZ:aJ ["numbers"] ["numbers"] (aq jK):=⟨rfl,rfl,rfl,by decide+kernel,rfl,by decide+kernel,by decide+kernel⟩
include T in
theorem w6{f:Addr}{fd:FuncData}(F:jY K "greatest" "greatest" jK f fd):aY P w K mg base (c8 P w) true 1 f fd ["numbers"] ky:=by
 refine F.gL wZ Xu (fun bY A outer s H vs Q E hr h hX=>?_)
 ·obtain⟨a,os,rfl,_⟩:=h;rfl
 ·obtain⟨a,os,rfl,ha,hl,q⟩:=h;refine⟨_,(Xh (@aN _ _ _ _ (@EK _ K _ _ _ _ _ _ _ (by exact rfl) (by exact rfl) T.F0 (@lh _ _ _ _ _ _ _ _ _ _ _ _ _ _ (by exact rfl) (show ba ["numbers"] (aq jK) _ ["number"] [] []from⟨rfl,by decide+kernel,by decide+kernel,by decide+kernel,rfl,rfl,by decide+kernel,by decide+kernel,by decide+kernel⟩) (@bB _ K _ _ _ (pv 0) (Xz)) (fun _ _ _ _ _=>(W' (0) (show(["number"]:List Str).Nodup by decide+kernel) (Or.inl rfl))) (fun _ _ _ _ _=>(@Yd _ _ _ (Xm (@qp _ _ _ _ _ (pv 0))))) (fun _ _ _ _ _=>(pv 0)) (by intro _;rfl)) (Xz) (Xz)))),?_⟩;refine⟨_,rfl,a,rfl,⟨_, .of ha⟩,fun D hD=>?_⟩;refine jj (xs:=os.map bD) (fun i ys bo H'=>(∃u,bo=[u])∧ys=((os.take i).filterMap id).map V.int∧H' D=some (.lst ys)∧au H H') ⟨⟨_,rfl⟩,rfl,ae,au.upd hD⟩ ?_ ?_ ?_
  ·rintro i ys bo H' _ ⟨_,_,_,s1⟩;exact .of (s1 _ _ ha)
  ·rintro i x ys bo H' hx ⟨⟨u,rfl⟩,rfl,qc,s1⟩;have hi:i<os.length:=by have:=(Xd hx).1;simpa using this
   have ho:os[i]?=some os[i]:=by simp[hi]
   generalize os[i]=o at ho;have ex:x=bD o:=by
    rw[List.getElem?_map,ho]at hx;exact(Option.some.inj hx).symm
   subst ex;have gT:(((os.take i).filterMap id).map V.int).length<sizeLine:=a_ (by
    have:=List.length_filterMap_le id (os.take i);rw[List.length_take]at this;rw[List.length_map];omega)
   have e1:os.take (i+1)=os.take i++[o]:=by rw[List.take_succ,ho];rfl
   refine⟨_,rfl,_,rfl,?_⟩;cases o with
   |none=>
    refine bu (fun hh=>absurd hh (by simp[bD])) (fun _=>?_);exact⟨⟨_,rfl⟩,by rw[e1];simp,qc,s1⟩
   |some v=>
    refine bu (fun _=>?_) (fun hh=>absurd (by simp[bD]) hh);exact⟨_,rfl,qc,gT,⟨_,rfl⟩,by rw[e1];simp[bD],ae,s1.eQ hD⟩
  ·rintro ys bo H' ⟨_,rfl,qc,s1⟩;rw[List.length_map,List.take_length]at qc;refine⟨D,os.filterMap id,rfl, .of qc,?_⟩;rw[EM];exact q H' s1
theorem Ff:aJ ["number","price"] ["number","price"] (aq YJ):=⟨rfl,rfl,rfl,by decide+kernel,rfl,by decide+kernel,by decide+kernel⟩
include T in
theorem Fg{f:Addr}{fd:FuncData}(F:jY K "less" "less" YJ f fd):aY P w K mg base (c8 P w) true 1 f fd ["number","price"] uJ:=by
 refine F.gL Ff Xu (fun bY A outer s H vs Q E hr h hX=>?_)
 ·obtain⟨o,p,rfl,_⟩:=h;rfl
 ·obtain⟨o,p,rfl,q⟩:=h;refine⟨_,(Xh (@aN _ _ _ _ (@mV _ _ _ _ _ _ _ _ (Xm (@oF _ _ _ _ _ (pv 0))) jA (Xe fu (pv 0) (pv 1))))),?_⟩;refine⟨_,rfl,_,rfl,?_⟩;cases o with
  |none=>
   refine ko ?_;exact q
  |some v=>
   refine bu (fun hh=>absurd hh (by simp[bD])) (fun _=>?_);exact⟨_,rfl,_,rfl,_,_,rfl,rfl,q⟩
theorem lK:aJ ["worth","brought"] ["worth","brought"] (aq e7):=⟨rfl,rfl,rfl,by decide+kernel,rfl,by decide+kernel,by decide+kernel⟩
include T in
theorem lL{f:Addr}{fd:FuncData}(F:jY K "begun_or_gone_on" "begun_or_gone_on" e7 f fd):aY P w K mg base (c8 P w) true 1 f fd ["worth","brought"] YS:=by
 refine F.gL lK Xu (fun bY A outer s H vs Q E hr h hX=>?_)
 ·obtain⟨w,b,rfl,_⟩:=h;rfl
 ·obtain⟨w,b,rfl,q⟩:=h;refine⟨_,(Xj (Xp (Xm (@oF _ _ _ _ _ (pv 0))) (Xh (@aN _ _ _ _ jA)) aS) (Xj (Xp (@PW.pt _ _ _ (@pw_or _ _ _ _ _ _ _ (Xm (@oF _ _ _ _ _ (pv 1))) (@pw_or1 _ _ _ _ (@aV _ _ _ _ _ _ _ _ qF (pv 1) aj (aX _))))) (Xh (@aN _ _ _ _ (pv 0))) aS) (Xh (@aN _ _ _ _ (Xe bM (pv 0) (pv 1)))))),?_⟩;refine⟨_,rfl,_,rfl,?_⟩;cases w with
  |none=>
   refine ko ?_;exact q
  |some w=>
   refine bu (fun hh=>absurd hh (by simp[bD])) (fun _=>?_);refine⟨_,rfl,_,rfl,?_⟩;cases b with
   |none=>
    refine ko ?_;refine ko ?_;exact⟨_,rfl,q⟩
   |some b=>
    refine bu (fun hh=>absurd hh (by simp[bD])) (fun _=>?_);refine⟨_,rfl,_,_,rfl,rfl,_,rfl,?_⟩;refine bu (fun hh=>?_) (fun hh=>?_)
    ·have hh:b<0:=by simpa using hh
     simp only[EL,hh,if_true]at q;exact⟨_,rfl,q⟩
    ·have hh:¬b<0:=by simpa using hh
     simp only[EL,hh,if_false]at q;exact⟨_,rfl,_,rfl,_,_,rfl,rfl,q⟩
variable(eF:bZ P w K mg base true 1 "greatest" ["numbers"] ky)
variable(jQ:bZ P w K mg base true 1 "less" ["number","price"] uJ)
variable(Rc:Yu K az)
theorem bV:aJ ["self","ended","above","row","j","worth"] ["self","ended","above"] (aq de):=⟨rfl,rfl,rfl,by decide+kernel,rfl,by decide+kernel,by decide+kernel⟩
include T eF jQ Rc in
theorem jc{f:Addr}{fd:FuncData}(F:gM K "brought_behind" "Trails.brought_behind" de f fd):aY P w K mg base (c8 P w) true 2 f fd ["self","ended","above"] (oS az):=by
 refine F.gL bV Xu (fun bY A outer s H vs Q E hr h hX=>?_)
 ·obtain⟨x,e,a,dx,te,tb,o,p,m,f,g,rfl,_⟩:=h;rfl
 ·obtain⟨x,e,a,dx,te,tb,o,p,m,f1,g,rfl,hx,he,ha,hm,q⟩:=h;refine⟨_,(Xj (W_ (3) bV.nd (@cA _ _ _ _ (W8 jA ai))) (Xj (@cy _ _ _ _ _ _ _ _ hX.own Xw (@nh _ K _ _ _ _ _ _ _ (by exact rfl) T.iJ (W8 (pv 1) ai) (Xz) (Xz)) (@iI _ K _ _ _ (2) _ (by exact rfl) (@bI _ _ _ _ _ (W' (4) bV.nd (Or.inl rfl)) (@bI _ _ _ _ _ (W' (5) bV.nd (Or.inl rfl)) iG (Xz)) (Xz)) (Xz) (Xz) (Xz)) (Xh (@a9 _ _ _ _ (Xg K PySem.F.plainAttrs_list PySem.F.slot_list_append PySem.F.type_list_append cn (pv 3) (W8 (W9 eF aT (W8 (@cA _ _ _ _ (W8 (pv 5) (W8 (W9 jQ aT (W8 (Xa (ar K) (pv 2) (Xe bM (pv 4) aj)) (W8 (Xc K (pv 0)) ai))) (W8 (W9 jQ aT (W8 (Xa (ar K) (pv 3) (pv 4)) (W8 (Xc K (pv 0)) ai))) ai)))) ai)) ai)) (Xz))) (by intro _;rfl)) (Xh (@aN _ _ _ _ (pv 3))))),?_⟩;refine⟨aD Xr,fun r DU=>?_⟩;refine⟨_,rfl,e,rfl,⟨_, .of (au.upd DU _ _ he)⟩,?_⟩;have hl:=cO m f1;refine wo (xs:=cN m f1) (fun i σ H'=>(∃u v,σ=[some (.ref x),some (.ref e),some (.ref a),some (.ref r),u,v])∧au H H'∧H' r=some (.lst (cN (i+1) (p7 f1 g o p)))) ?_ ?_ ?_ ?_
  ·exact⟨⟨_,_,rfl⟩,au.upd DU,by rw[ae];simp[cN,p7,bD,List.range_succ]⟩
  ·rintro i σ H' _ ⟨_,s1,_⟩;exact .of (s1 _ _ he)
  ·rintro i v T' σ H' hv ⟨⟨u,u2,rfl⟩,s1,X1⟩ hT;have hi:i<m:=by have:=(Xd hv).1;omega
   rw[cP hi]at hv;cases hv;have s2:au H (upd H' T' (.tup [.int i,bD (f1 i)])):=s1.trans (au.upd hT);have va:=au.upd (o:= .tup [.int i,bD (f1 i)]) hT _ _ X1;refine⟨T',_,rfl, .of ae,rfl,_,_,rfl,_,_,rfl,rfl,?_⟩;generalize upd H' T' (.tup [.int i,bD (f1 i)])=H2 at s2 va;have U5:si (cN (m+1) g) ((i:Int)+1)=some (bD (g (i+1))):=by
    have:((i:Int)+1)=((i+1:Nat):Int):=Xx;rw[this];exact av (cP Xs)
   have at2:si (cN (i+1) (p7 f1 g o p)) (i:Int)=some (bD (p7 f1 g o p i)):=av (cP Xs);refine⟨_,rfl, .inl ⟨rfl,_, .of va⟩,_,rfl,_,rfl,_,rfl,_,_,rfl,rfl,a,_,_,_,rfl,rfl, .of (s2 _ _ ha),U5,_,rfl,x,az,dx,_,_,rfl,s2 _ _ hx,Rc.cl,Rc.out,F_ o p te tb,g (i+1),o,rfl,_,rfl,_,rfl,r,_,_,_,rfl,rfl, .of va,at2,_,rfl,x,az,dx,_,_,rfl,s2 _ _ hx,Rc.cl,Rc.into,Cy o p te tb,p7 f1 g o p i,p,rfl,aD Xr,fun L hL=>⟨L,[f1 i,bq (g (i+1)) o,bq (p7 f1 g o p i) p],rfl,ae,XA,fun H3 s3=>?_⟩⟩;have s4:=(au.upd (o:= .lst [bD (f1 i),bD (bq (g (i+1)) o),bD (bq (p7 f1 g o p i) p)]) hL).trans s3;exact⟨r,_,_,rfl,rfl,s4 _ _ va,a_ (by rw[cO];omega),⟨_,_,rfl⟩,(s2.trans s4).eQ DU,by rw[ae,oR (i+1)];rfl⟩
  ·rintro σ H' ⟨⟨u,v,rfl⟩,s1,X1⟩;rw[hl]at X1;exact⟨_,rfl,q H' r s1 DU X1⟩
variable(dF:bZ P w K mg base true 1 "begun_or_gone_on" ["worth","brought"] YS)
variable(b_:dP P w K mg base true 2 az "brought_behind" ["self","ended","above"] (oS az))
theorem cB:aJ ["self","worths","terms","width","row","above","ended"] ["self","worths","terms"] (aq dX):=⟨rfl,rfl,rfl,by decide+kernel,rfl,by decide+kernel,by decide+kernel⟩
include T Tc Rc dF b_ in
theorem mC{f:Addr}{fd:FuncData}(F:gM K "__init__" "Trails.__init__" dX f fd):aY P w K mg base (c8 P w) true 4 f fd ["self","worths","terms"] (oX az aQ):=by
 refine F.gL cB Xu (fun bY A outer s H vs Q E hr h hX=>?_)
 ·obtain⟨x,dx,w,t,c,as,f,n,m,rfl,_⟩:=h;rfl
 ·obtain⟨x,dx,w,t,c,as,f1,n,m,rfl,hx,Cv,hw,TA,TF,hn,hm,q⟩:=h;obtain⟨nu,dt,l,d,vs,T1,e1,e2,e3,e4⟩:=TF;have P7:w≠x:=hZ hw hx (by intro z;cases z);have Ny:t≠x:=fun z=>by
   have h1:=T1.ob;rw[z,hx]at h1;have h2:=congrArg (fun o=>match o with|some (HO.ins _ _ fs)=>fs.length| _=>0) h1;simp[uA]at h2
  refine⟨_,(Xn (Xq K (pv 0) (Xc K (pv 2))) (Xn (Xq K (pv 0) (Xc K (pv 2))) (Xn (W_ (3) cB.nd (@mV _ _ _ _ _ _ _ _ (@aV _ _ _ _ _ _ _ _ vW (Xb (aK K) (by exact rfl) T.dI PyProof.Rows.Boot.«len» (W8 (pv 1) ai)) aj (aX _)) (Xb (aK K) (by exact rfl) T.dI PyProof.Rows.Boot.«len» (W8 (Xa (ar K) (pv 1) aj) ai)) aj)) (Xn (Xq K (pv 0) (@cA _ _ _ _ ai)) (Xn (Xq K (pv 0) (@cA _ _ _ _ (W8 (Xe HJ (@cA _ _ _ _ (W8 jA ai)) (Xe bM (pv 3) aj)) ai))) (Xh (@cy _ _ _ _ _ _ _ _ hX.own Xw (@bB _ K _ _ _ (pv 1) (Xz)) (W' (4) cB.nd (Or.inl rfl)) (Xn (@aH _ _ (5) _ _ _ _ cB.nd Xw (Or.inr rfl) (Xa (ar K) (Xc K (pv 0)) (@pL _ _ _ _ _ _ ki aj)) (Xz) (by exact .inl rfl)) (Xn (@jC _ _ _ _ _ _ _ _ _ _ _ _ _ _ _ (6) _ _ (by exact rfl) cB.nd Xw (by exact rfl) (show ba ["self","worths","terms","width","row","above","ended"] (aq dX) _ ["j","worth"] [5] ["above"]from⟨rfl,by decide+kernel,by decide+kernel,by decide+kernel,rfl,rfl,by decide+kernel,by decide+kernel,by decide+kernel⟩) (@nh _ K _ _ _ _ _ _ _ (by exact rfl) T.iJ (W8 (pv 4) ai) (Xz) (Xz)) (fun _ _ _ _ _=>(@iI _ K _ _ _ (2) _ (by exact rfl) (@bI _ _ _ _ _ (W' (0) (show(["j","worth","above"]:List Str).Nodup by decide+kernel) (Or.inl rfl)) (@bI _ _ _ _ _ (W' (1) (show(["j","worth","above"]:List Str).Nodup by decide+kernel) (Or.inl rfl)) iG (Xz)) (Xz)) (Xz) (Xz) (Xz))) (fun _ _ _ _ _=>fA) (fun _ _ _ _ _=>(W9 dF aT (W8 (pv 1) (W8 (Xa (ar K) (pv 2) (pv 0)) ai)))) (Xz) (by intro _;rfl)) (Xn (@a9 _ _ _ _ (Xg K PySem.F.plainAttrs_list PySem.F.slot_list_append PySem.F.type_list_append cn (Xc K (pv 0)) (W8 (pv 6) ai)) (Xz)) (Xh (@a9 _ _ _ _ (Xg K PySem.F.plainAttrs_list PySem.F.slot_list_append PySem.F.type_list_append cn (Xc K (pv 0)) (W8 (Xf (pv 0) b_ (hr.mono (Xy)) aT (W8 (pv 6) (W8 (pv 5) ai))) ai)) (Xz)))))) (by intro _;rfl)))))))),?_⟩;refine⟨fun σ H1=>σ=[some (.ref x),some (.ref w),some (.ref t),none,none,none,none]∧H1=upd H x (.ins az dx (bf "out" (.int c.out) [])),?_,?_⟩
  ·refine⟨_,rfl,t,aQ,dt,_,_,rfl,T1.ob,Tc.cl,Tc.out,l_out nu l d,_,rfl,x,az,dx,_,rfl,hx,Rc.cl,Rc.out,Xy,rfl,?_⟩;rw[e2]
  rintro σ H1 ⟨rfl,rfl⟩;refine⟨fun σ H1=>σ=[some (.ref x),some (.ref w),some (.ref t),none,none,none,none]∧H1=upd H x (.ins az dx (bf "into" (.int c.into) (bf "out" (.int c.out) []))),?_,?_⟩
  ·refine⟨_,rfl,t,aQ,dt,_,_,rfl,by rw[af Ny];exact T1.ob,Tc.cl,Tc.into,HW nu l d,_,rfl,x,az,dx,_,rfl,ae,Rc.cl,Rc.into,?_,rfl,?_⟩
   ·have:=aU "out" (.int c.out) [];simp at this;omega
   ·rw[ft,e3]
  rintro σ H1 ⟨rfl,rfl⟩;refine⟨fun σ H1=>∃wd:Int,σ=[some (.ref x),some (.ref w),some (.ref t),some (.int wd),none,none,none]∧H1=upd H x (.ins az dx (bf "into" (.int c.into) (bf "out" (.int c.out) [])))∧(0<n→wd=(m:Int))∧0≤wd∧wd≤1000,?_,?_⟩
  ·have sD:upd H x (.ins az dx (bf "into" (.int c.into) (bf "out" (.int c.out) []))) w=some (.lst (as.map V.ref)):=by rw[af P7];exact hw
   have XE:=TA.len;refine⟨_,rfl,w,_,rfl, .inl (.of sD),_,_,rfl,rfl,_,rfl,?_⟩;refine bu (fun hh=>?_) (fun hh=>?_)
   ·have hh:0<n:=by
     have:(0:Int)<((as.map V.ref).length:Int):=by simpa using hh
     rw[List.length_map]at this;omega
    obtain⟨a,X6,JS,RO⟩:=TA.at hh;have L5:a≠x:=hZ RO hx (by intro z;cases z);have U6:upd H x (.ins az dx (bf "into" (.int c.into) (bf "out" (.int c.out) []))) a=some (.lst (cN m (f1 0))):=by rw[af L5];exact RO
    refine⟨_,rfl,w,_,0,_,rfl,rfl, .of sD,av (j:=0) JS,a,_,rfl, .inl (.of U6),_,rfl,rfl,fun _=>by rw[cO],by rw[cO];omega,by rw[cO];omega⟩
   ·have hh:n=0:=by
     have:¬(0:Int)<((as.map V.ref).length:Int):=by simpa using hh
     rw[List.length_map]at this;omega
    exact⟨_,rfl,rfl,fun z=>Xx,Xx,Xx⟩
  rintro σ H1 ⟨wd,rfl,rfl,U7,WC,WD⟩;refine⟨fun σ H1=>∃e,σ=[some (.ref x),some (.ref w),some (.ref t),some (.int wd),none,none,none]∧H1 x=some (.ins az dx (bf "ending" (.ref e) (bf "into" (.int c.into) (bf "out" (.int c.out) []))))∧SameBut x H H1∧H e=none∧H1 e=some (.lst []),?_,?_⟩
  ·refine⟨aD Xr,fun e he=>?_⟩;have vO:SameBut x H (upd H x (.ins az dx (bf "into" (.int c.into) (bf "out" (.int c.out) [])))):=SameBut.refl.upd;have RP:x≠e:=aB ae he;have Gx:=vO.free ae he;refine⟨_,rfl,x,az,dx,_,rfl,by rw[af RP,ae],Rc.cl,Rc.jH,?_,e,rfl,ae,(vO.laid Gx).upd,Gx,by rw[af (Ne.symm RP),ae]⟩;have a1:=aU "into" (.int c.into) (bf "out" (.int c.out) []);have a2:=aU "out" (.int c.out) [];simp at a2;omega
  rintro σ H1 ⟨e,rfl,lV,vO,Gx,X5⟩;refine⟨fun σ H2=>∃b ab,σ=[some (.ref x),some (.ref w),some (.ref t),some (.int wd),none,none,none]∧H2 x=some (.ins az dx (fZ c.out c.into e b))∧SameBut x H H2∧H2 e=some (.lst [])∧H b=none∧e≠b∧H2 b=some (.lst [.ref ab])∧(0<n→H2 ab=some (.lst (cN (m+1) (Bq f1 c.out c.into 0))))∧ab≠e∧ab≠b∧H ab=none,?_,?_⟩
  ·refine⟨aD Xr,fun l1 mS=>⟨_,rfl,_,_,rfl,rfl,l1,_,_,rfl,rfl,ae,Xx,Xx,aD (by simp;omega),fun ab Dj=>⟨aD Xr,fun b hb=>?_⟩⟩⟩;have s1:au H1 (upd (upd (upd H1 l1 (.lst [.cD])) ab (.lst (List.replicate (wd+1).toNat [V.cD]).flatten)) b (.lst [.ref ab])):=((au.upd mS).trans (au.upd Dj)).trans (au.upd hb);have mR:H1 b=none:=((au.upd mS).trans (au.upd Dj)).free hb;have Gy:=s1 _ _ lV;have U8:x≠b:=aB lV mR;have Gz:ab≠b:=aB ae hb;refine⟨_,rfl,x,az,dx,_,rfl,Gy,Rc.cl,Rc.iK,?_,b,ab,rfl,by rw[ae,Lu],(vO.same s1).upd,?_,vO.free lV mR,aB X5 mR,?_,fun h0=>?_,?_,Gz,vO.free lV ((au.upd mS).free Dj)⟩
   ·have a0:=aU "ending" (.ref e) (bf "into" (.int c.into) (bf "out" (.int c.out) []));have a1:=aU "into" (.int c.into) (bf "out" (.int c.out) []);have a2:=aU "out" (.int c.out) [];simp at a2;omega
   ·have:e≠x:=hZ X5 lV (by intro z;cases z);rw[af this];exact s1 _ _ X5
   ·rw[af (Ne.symm U8),ae]
   ·have RQ:ab≠x:=fun z=>by rw[z]at Dj;rw[(au.upd mS) _ _ lV]at Dj;cases Dj
    rw[af RQ,af Gz,ae,U7 h0]
    congr 1
    have:((m:Int)+1).toNat=m+1:=Xx;rw[this]
    congr 1
    apply List.ext_getElem?;intro k;by_cases hk:k<m+1
    ·rw[cP hk,gW];simp[bD,hk]
    ·rw[List.getElem?_eq_none (by simp;omega),List.getElem?_eq_none (by rw[cO];omega)]
   ·exact Ne.symm (aB ((au.upd mS) _ _ X5) Dj)
  clear lV vO X5 H1;rintro σ H1 ⟨b,ab,rfl,lV,vO,X5,RR,RS,mR,Fh,L6,Gz,Bv⟩;refine⟨_,rfl,w,rfl,⟨_, .of (vO _ _ P7 hw)⟩,?_⟩;refine cz (xs:=as.map V.ref) (fun i σ H'=>(∃u1 u2 u3,σ=[some (.ref x),some (.ref w),some (.ref t),some (.int wd),u1,u2,u3])∧H' x=some (.ins az dx (fZ c.out c.into e b))∧SameBut x H H'∧∃(es:List Addr)(bs:List V)(ab:Addr),H' e=some (.lst (es.map V.ref))∧il H' es (cW f1 c.out c.into) i m∧(∀a∈es,H a=none∧a≠e∧a≠b∧a≠x)∧H' b=some (.lst (bs++[.ref ab]))∧bs.length=i∧(0<n→H' ab=some (.lst (cN (m+1) (Bq f1 c.out c.into i))))∧ab≠e∧ab≠b∧H ab=none∧∃bz:List Addr,bs=bz.map V.ref∧∀k a,bz[k]?=some a→H' a=some (.lst (cN (m+1) (Bq f1 c.out c.into k)))∧a≠e∧a≠b∧H a=none) ?_ ?_ ?_ ?_
  ·exact⟨⟨_,_,_,rfl⟩,lV,vO,[],[],ab,X5,⟨rfl,fun i a h=>by simp at h⟩,(fun a h=>by cases h),mR,rfl,Fh,L6,Gz,Bv,[],rfl,fun k a h=>by simp at h⟩
  ·rintro i σ H' _ ⟨_,_,sb,_⟩;exact .of (sb _ _ P7 hw)
  ·clear lV vO X5 mR Fh L6 Gz Bv ab H1;rintro i v σ H' hv ⟨⟨u1,u2,u3,rfl⟩,lV,vO,es,bs,ab,X5,TE,L7,mR,Fi,Fh,L6,Gz,Bv,bz,L8,BZ⟩;have XE:=TA.len;have hi:i<n:=by have:=(Xd hv).1;rw[List.length_map]at this;omega
   obtain⟨ra,DU,X1,va⟩:=TA.at hi;rw[X1]at hv;cases hv;have U9:ra≠x:=hZ va hx (by intro z;cases z);have Nz:=vO _ _ U9 va;have A9:=Fh Xs;refine⟨fun σ H2=>σ=[some (.ref x),some (.ref w),some (.ref t),some (.int wd),some (.ref ra),some (.ref ab),u3]∧H2=H',?_,?_⟩
   ·exact⟨_,rfl,x,az,dx,_,_,rfl,lV,Rc.cl,Rc.iK,gc c.out c.into e b,_,rfl,b,_,_,_,rfl,rfl, .of mR,wc _ _,rfl,rfl⟩
   rintro σ H' ⟨rfl,rfl⟩;refine⟨fun σ H2=>∃D,σ=[some (.ref x),some (.ref w),some (.ref t),some (.int wd),some (.ref ra),some (.ref ab),some (.ref D)]∧au H' H2∧H' D=none∧H2 D=some (.lst (cN m (cW f1 c.out c.into i))),?_,?_⟩
   ·refine⟨_,rfl,ra,rfl,⟨_, .of Nz⟩,fun D hD=>?_⟩;refine tP (xs:=cN m (f1 i)) (fun j ys bo H2=>(∃w1 w2,bo=[w1,w2,some (.ref ab)])∧ys=cN j (cW f1 c.out c.into i)∧H2 D=some (.lst ys)∧au H' H2) ⟨⟨_,_,rfl⟩,rfl,ae,au.upd hD⟩ ?_ ?_ ?_
    ·rintro j ys bo H2 _ ⟨_,_,_,s2⟩;exact .of (s2 _ _ Nz)
    ·rintro j y T2 ys bo H2 hy ⟨⟨w1,w2,rfl⟩,rfl,kJ,s2⟩ L9;have hj:j<m:=by have:=(Xd hy).1;rw[cO]at this;exact this
     rw[cP hj]at hy;cases hy;have s3:au H' (upd H2 T2 (.tup [.int j,bD (f1 i j)])):=s2.trans (au.upd L9);have A8:=au.upd (o:= .tup [.int j,bD (f1 i j)]) L9 _ _ kJ;refine⟨T2,_,rfl, .of ae,rfl,_,_,rfl,_,_,rfl,rfl,?_⟩;refine ux ?_;refine⟨_,rfl,_,rfl,_,rfl,ab,_,_,_,rfl,rfl, .of (s3 _ _ A9),av (cP Xs),f1 i j,Bq f1 c.out c.into i j,rfl,A8,a_ (by rw[cO];omega),⟨_,_,rfl⟩,by rw[oR];rfl,ae,s3.eQ hD⟩
    ·rintro ys bo H2 ⟨_,rfl,kJ,s2⟩;rw[cO]at kJ;exact⟨D,rfl,s2,hD,kJ⟩
   rintro σ H2 ⟨D,rfl,s2,NA,kJ⟩;have Gy:=s2 _ _ lV;have JX:=s2 _ _ X5;have Dn:=s2 _ _ mR;have P8:=s2 _ _ A9;have U_:D≠x:=Ne.symm (aB lV NA);have RT:D≠e:=Ne.symm (aB X5 NA);have RU:D≠b:=Ne.symm (aB mR NA);have U':e≠x:=hZ X5 lV (by intro z;cases z);have Va:b≠x:=hZ mR lV (by intro z;cases z);have RQ:ab≠x:=hZ A9 lV (by intro z;cases z);have Fj:=TE.len;have Vc:H D=none:=vO.free lV NA;have P9:=vO.same s2;refine⟨fun σ H3=>σ=[some (.ref x),some (.ref w),some (.ref t),some (.int wd),some (.ref ra),some (.ref ab),some (.ref D)]∧H3=upd H2 e (.lst (es.map V.ref++[.ref D])),?_,?_⟩
   ·exact⟨_,rfl,x,az,dx,_,_,rfl,Gy,Rc.cl,Rc.jH,gF c.out c.into e b, .inl ⟨rfl,_, .of JX⟩,_,rfl,e,_,_,rfl,rfl,JX,a_ (by rw[List.length_map];omega),rfl,rfl⟩
   rintro σ H3 ⟨rfl,rfl⟩;have JY:upd H2 e (.lst (es.map V.ref++[.ref D])) x=some (.ins az dx (fZ c.out c.into e b)):=by rw[af (Ne.symm U')];exact Gy
   have Jo:upd H2 e (.lst (es.map V.ref++[.ref D])) b=some (.lst (bs++[.ref ab])):=by rw[af (Ne.symm RS)];exact Dn
   have Jp:upd H2 e (.lst (es.map V.ref++[.ref D])) ab=some (.lst (cN (m+1) (Bq f1 c.out c.into i))):=by rw[af L6];exact P8
   have A8:upd H2 e (.lst (es.map V.ref++[.ref D])) D=some (.lst (cN m (cW f1 c.out c.into i))):=by rw[af RT];exact kJ
   have DV:upd H2 e (.lst (es.map V.ref++[.ref D])) e=some (.lst (es.map V.ref++[.ref D])):=ae;have P_:SameBut x H (upd H2 e (.lst (es.map V.ref++[.ref D]))):=P9.laid Gx;have RV:∀k a,es[k]?=some a→upd H2 e (.lst (es.map V.ref++[.ref D])) a=some (.lst (cN m (cW f1 c.out c.into k))):=fun k a hk=>by
    rw[af (L7 a (Xi hk)).2.1];exact s2 _ _ (TE.row k a hk)
   have RW:∀k a,bz[k]?=some a→upd H2 e (.lst (es.map V.ref++[.ref D])) a=some (.lst (cN (m+1) (Bq f1 c.out c.into k))):=fun k a hk=>by
    rw[af (BZ k a hk).2.1];exact s2 _ _ (BZ k a hk).1
   generalize upd H2 e (.lst (es.map V.ref++[.ref D]))=H3 at JY Jo Jp A8 DV P_ RV RW;refine⟨_,rfl,x,az,dx,_,_,rfl,JY,Rc.cl,Rc.iK,gc c.out c.into e b, .inl ⟨rfl,_, .of Jo⟩,_,rfl,x,dx,_,rfl,JY,Cz c.out c.into e b,_,rfl,_,rfl,x,D,ab,dx,e,b,c.out,c.into,m,_,_,rfl,JY,A8,Jp,hm,fun H4 r s4 qd Ve=>?_⟩;have RX:r≠b:=Ne.symm (aB Jo qd);have Vf:r≠e:=Ne.symm (aB DV qd);refine⟨b,_,_,rfl,rfl,s4 _ _ Jo,a_ (by rw[List.length_append];simp;omega),⟨_,_,_,rfl⟩,by rw[af (Ne.symm Va)];exact s4 _ _ JY,(P_.same s4).laid RR,es++[D],bs++[.ref ab],r,by rw[af RS];rw[s4 _ _ DV];simp,⟨by simp[Fj],fun k a hk=>?_⟩,fun a ha=>?_,ae,by simp[Fi],fun _=>?_,Vf,RX,P_.free JY qd,bz++[ab],by simp[L8],fun k a hk=>?_⟩
   ·by_cases h:k<i
    ·rw[List.getElem?_append_left Xs]at hk;rw[af (L7 a (Xi hk)).2.2.1];exact s4 _ _ (RV k a hk)
    ·rw[List.getElem?_append_right Xs]at hk;have AM:k-es.length=0:=by
      have:=(Xd hk).1;simp at this;omega
     rw[AM]at hk;have:D=a:=by simpa using hk
     subst this;rw[af RU];have:k=i:=Xx;rw[this];exact s4 _ _ A8
   ·rcases List.mem_append.mp ha with ha|ha
    ·exact L7 a ha
    ·have:a=D:=by simpa using ha
     rw[this];exact⟨Vc,RT,RU,U_⟩
   ·rw[af RX,Ve]
    congr 2
    unfold cN;apply List.map_congr_left;intro j _;rw[Yb]
   ·have L_:bz.length=i:=by rw[L8,List.length_map]at Fi;exact Fi
    by_cases h:k<i
    ·rw[List.getElem?_append_left Xs]at hk;obtain⟨_,z1,z2,z3⟩:=BZ k a hk;exact⟨by rw[af z2];exact s4 _ _ (RW k a hk),z1,z2,z3⟩
    ·rw[List.getElem?_append_right Xs]at hk;have AM:k-bz.length=0:=by
      have:=(Xd hk).1;simp at this;omega
     rw[AM]at hk;have:ab=a:=by simpa using hk
     subst this;have:k=i:=Xx;subst this;exact⟨by rw[af Gz];exact s4 _ _ Jp,L6,Gz,Bv⟩
  ·rintro σ H' ⟨⟨u1,u2,u3,rfl⟩,Gy,P9,es,bs,Qa,JX,TE,L7,Dn,Fi,A9,Vg,Vh,JS,bz,L8,BZ⟩;rw[List.length_map,TA.len]at TE Fi A9;have L_:bz.length=n:=by rw[L8,List.length_map]at Fi;exact Fi
   refine q H' e b P9 Gy ⟨es,JX,Gx,TE,fun a ha=>(L7 a ha).1⟩ fun Qb=>⟨bz++[Qa],by rw[Dn,L8];simp,RR,⟨by simp[L_],fun k a hk=>?_⟩,fun a ha=>?_⟩
   ·by_cases h:k<n
    ·rw[List.getElem?_append_left Xs]at hk;exact(BZ k a hk).1
    ·rw[List.getElem?_append_right Xs]at hk;have AM:k-bz.length=0:=by
      have:=(Xd hk).1;simp at this;omega
     rw[AM]at hk;have:Qa=a:=by simpa using hk
     subst this;have:k=n:=Xx;subst this;exact A9 Qb
   ·rcases List.mem_append.mp ha with ha|ha
    ·obtain⟨k,hk,rfl⟩:=List.mem_iff_getElem.mp ha;exact(BZ k _ (by simp[hk])).2.2.2
    ·have:a=Qa:=by simpa using ha
     rw[this];exact JS
theorem iQ:aJ ["self","pair","brought"] ["self","pair"] (aq gh):=⟨rfl,rfl,rfl,by decide+kernel,rfl,by decide+kernel,by decide+kernel⟩
include T Rc in
theorem nF{f:Addr}{fd:FuncData}(F:gM K "goes_on" "Trails.goes_on" gh f fd):aY P w K mg base (c8 P w) true 1 f fd ["self","pair"] (uO az):=by
 refine F.gL iQ Xu (fun bY A outer s H vs Q E hr h hX=>?_)
 ·obtain⟨x,dx,e,b,es,bs,f,o,p,n,m,pr,i,j,rfl,_⟩:=h;rfl
 ·obtain⟨x,dx,e,b,es,bs,f1,o,p,n,m,pr,i,j,rfl,TR,XO,hi,hj,q⟩:=h;refine⟨_,(Xj (W_ (2) iQ.nd (Xa (ar K) (Xa (ar K) (Xc K (pv 0)) (Xa (cX K) (pv 1) aj)) (Xa (cX K) (pv 1) aj))) (Xh (@aN _ _ _ _ (@t_ _ _ _ _ _ _ _ (@xA _ _ _ _ _ _ (@qp _ _ _ _ _ (pv 2)) (by first|exact bH _ (Xy) (Xy)|rfl)) (@t9 _ _ _ _ _ (@kZ _ _ _ _ _ _ _ _ FG (pv 2) aj (aX _))))))),?_⟩;obtain⟨ra,h1,h2,h3⟩:=TR.tb.at (show i<n+1 by omega);refine⟨_,rfl,x,az,dx,_,_,rfl,TR.ob,Rc.cl,Rc.iK,gc o p e b,_,rfl,pr,_,_,_,rfl,rfl, .of XO,av (j:=0) rfl,b,_,_,_,rfl,rfl, .of TR.hb,av h2,_,rfl,pr,_,_,_,rfl,rfl, .of XO,av (j:=1) rfl,ra,_,_,_,rfl,rfl, .of h3,av (cP (show j<m+1 by omega)),?_⟩;refine⟨_,rfl,?_⟩;cases eB:Bq f1 o p i j with
  |none=>
   rw[eB]at q;exact⟨_,rfl,bu (fun hh=>absurd hh (by simp[bD])) fun _=>q⟩
  |some v=>
   rw[eB]at q;exact⟨_,rfl,bu (fun _=>⟨_,rfl,_,_,rfl,rfl,q⟩) fun hh=>absurd (by simp[bD]) hh⟩
theorem jq:aJ ["self","crossing","pair"] ["self","crossing","pair"] (aq dC):=⟨rfl,rfl,rfl,by decide+kernel,rfl,by decide+kernel,by decide+kernel⟩
include T Rc in
theorem jr{f:Addr}{fd:FuncData}(F:gM K "is_brought_by" "Trails.is_brought_by" dC f fd):aY P w K mg base (c8 P w) true 1 f fd ["self","crossing","pair"] (YK az):=by
 refine F.gL jq Xu (fun bY A outer s H vs Q E hr h hX=>?_)
 ·obtain⟨x,dx,e,b,es,bs,f,o,p,n,m,cr,pr,i,j,k,l,rfl,_⟩:=h;rfl
 ·obtain⟨x,dx,e,b,es,bs,f1,o,p,n,m,cr,pr,i,j,k,l,rfl,TR,GA,XO,hi,hj,hk,hl,q⟩:=h;refine⟨_,(Xh (@aN _ _ _ _ (@kZ _ _ _ _ _ _ _ _ iH (Xa (ar K) (Xa (ar K) (Xc K (pv 0)) (Xa (cX K) (pv 2) aj)) (Xa (cX K) (pv 2) aj)) (Xa (ar K) (Xa (ar K) (Xc K (pv 0)) (Xa (cX K) (pv 1) aj)) (Xa (cX K) (pv 1) aj)) (aX _)))),?_⟩;obtain⟨ra,h1,h2,h3⟩:=TR.tb.at (show i<n+1 by omega);obtain⟨rb,g1,g2,g3⟩:=TR.te.at hk;refine⟨_,rfl,x,az,dx,_,_,rfl,TR.ob,Rc.cl,Rc.jH,gF o p e b,_,rfl,pr,_,_,_,rfl,rfl, .of XO,av (j:=0) rfl,e,_,_,_,rfl,rfl, .of TR.he,av g2,_,rfl,pr,_,_,_,rfl,rfl, .of XO,av (j:=1) rfl,rb,_,_,_,rfl,rfl, .of g3,av (cP hl),?_⟩;refine⟨_,rfl,x,az,dx,_,_,rfl,TR.ob,Rc.cl,Rc.iK,gc o p e b,_,rfl,cr,_,_,_,rfl,rfl, .of GA,av (j:=0) rfl,b,_,_,_,rfl,rfl, .of TR.hb,av h2,_,rfl,cr,_,_,_,rfl,rfl, .of GA,av (j:=1) rfl,ra,_,_,_,rfl,rfl, .of h3,av (cP (show j<m+1 by omega)),?_⟩;have GB:∀a c:Option Int,decide (bD a=bD c)=decide (a=c):=fun a c=>by cases a<;>cases c<;>simp[bD]
  refine⟨by cases cW f1 o p k l<;>cases Bq f1 o p i j<;>rfl,?_⟩;rw[GB];exact q
theorem bb:aJ ["self","crossing","i","j","brought","found"] ["self","crossing"] (aq cG):=⟨rfl,rfl,rfl,by decide+kernel,rfl,by decide+kernel,by decide+kernel⟩
include T jQ Rc in
theorem iu{f:Addr}{fd:FuncData}(F:gM K "crossings_before" "Trails.crossings_before" cG f fd):aY P w K mg base (c8 P w) true 2 f fd ["self","crossing"] (qU az):=by
 refine F.gL bb Xu (fun bY A outer s H vs Q E hr h hX=>?_)
 ·obtain⟨x,dx,e,b,es,bs,f,o,p,n,m,cr,i,j,rfl,_⟩:=h;rfl
 ·obtain⟨x,dx,e,b,es,bs,f1,o,p,n,m,cr,i,j,rfl,TR,GA,hi,hj,q⟩:=h;refine⟨_,(Xn (W_ (2) bb.nd (Xa (cX K) (pv 1) aj)) (Xn (W_ (3) bb.nd (Xa (cX K) (pv 1) aj)) (Xn (W_ (4) bb.nd (Xa (ar K) (Xa (ar K) (Xc K (pv 0)) (pv 2)) (pv 3))) (Xn (W_ (5) bb.nd (@cA _ _ _ _ ai)) (Xn (Xp (@aV _ _ _ _ _ _ _ _ iH (W9 jQ aT (W8 (Xa (ar K) (Xa (ar K) (Xc K (pv 0)) (Xe fu (pv 2) aj)) (pv 3)) (W8 (Xc K (pv 0)) ai))) (pv 4) (aX _)) (Xh (@a9 _ _ _ _ (Xg K PySem.F.plainAttrs_list PySem.F.slot_list_append PySem.F.type_list_append cn (pv 5) (W8 (@fv _ _ _ _ _ (W8 (Xe fu (pv 2) aj) (W8 (pv 3) ai))) ai)) (Xz))) aS) (Xn (Xp (@aV _ _ _ _ _ _ _ _ iH (W9 jQ aT (W8 (Xa (ar K) (Xa (ar K) (Xc K (pv 0)) (pv 2)) (Xe fu (pv 3) aj)) (W8 (Xc K (pv 0)) ai))) (pv 4) (aX _)) (Xh (@a9 _ _ _ _ (Xg K PySem.F.plainAttrs_list PySem.F.slot_list_append PySem.F.type_list_append cn (pv 5) (W8 (@fv _ _ _ _ _ (W8 (pv 2) (W8 (Xe fu (pv 3) aj) ai))) ai)) (Xz))) aS) (Xh (@aN _ _ _ _ (pv 5))))))))),?_⟩;have GB:∀a c:Option Int,decide (bD a=bD c)=decide (a=c):=fun a c=>by cases a<;>cases c<;>simp[bD]
  obtain⟨ra,h1,h2,h3⟩:=TR.tb.at (show i<n+1 by omega);obtain⟨rb,g1,g2,g3⟩:=TR.tb.at (show i+1<n+1 by omega);refine⟨fun σ H1=>σ=[some (.ref x),some (.ref cr),some (.int ((i+1:Nat):Int)),none,none,none]∧H1=H,⟨_,rfl,cr,_,_,_,rfl,rfl, .of GA,av (j:=0) rfl,rfl,rfl⟩,?_⟩;rintro σ H ⟨rfl,rfl⟩;refine⟨fun σ H1=>σ=[some (.ref x),some (.ref cr),some (.int ((i+1:Nat):Int)),some (.int ((j+1:Nat):Int)),none,none]∧H1=H,⟨_,rfl,cr,_,_,_,rfl,rfl, .of GA,av (j:=1) rfl,rfl,rfl⟩,?_⟩;rintro σ H ⟨rfl,rfl⟩;refine⟨fun σ H1=>σ=[some (.ref x),some (.ref cr),some (.int ((i+1:Nat):Int)),some (.int ((j+1:Nat):Int)),some (bD (Bq f1 o p (i+1) (j+1))),none]∧H1=H,⟨_,rfl,x,az,dx,_,_,rfl,TR.ob,Rc.cl,Rc.iK,gc o p e b,_,rfl,b,_,_,_,rfl,rfl, .of TR.hb,av g2,_,rfl,rb,_,_,_,rfl,rfl, .of g3,av (cP (show j+1<m+1 by omega)),rfl,rfl⟩,?_⟩;rintro σ H ⟨rfl,rfl⟩;refine⟨fun σ H1=>∃r,σ=[some (.ref x),some (.ref cr),some (.int ((i+1:Nat):Int)),some (.int ((j+1:Nat):Int)),some (bD (Bq f1 o p (i+1) (j+1))),some (.ref r)]∧au H H1∧H r=none∧H1 r=some (.lst []),⟨aD Xr,fun r hr=>⟨r,rfl,au.upd hr,hr,ae⟩⟩,?_⟩;rintro σ H1 ⟨r,rfl,s1,qd,DU⟩;refine⟨fun σ H2=>∃us,σ=[some (.ref x),some (.ref cr),some (.int ((i+1:Nat):Int)),some (.int ((j+1:Nat):Int)),some (bD (Bq f1 o p (i+1) (j+1))),some (.ref r)]∧au H H2∧H2 r=some (.lst us)∧f' H2 us (if bq (Bq f1 o p i (j+1)) o=Bq f1 o p (i+1) (j+1)then[((i:Int),((j+1:Nat):Int))]else[]),?_,?_⟩
  ·have T1:=TR.keep s1;have ea:si (bs.map V.ref) (((i+1:Nat):Int)-1)=some (.ref ra):=by
    rw[show((i+1:Nat):Int)-1=(i:Int) by omega];exact av h2
   refine⟨_,rfl,x,az,dx,_,_,rfl,T1.ob,Rc.cl,Rc.iK,gc o p e b,_,rfl,_,_,rfl,rfl,b,_,_,_,rfl,rfl, .of T1.hb,ea,_,rfl,ra,_,_,_,rfl,rfl, .of (s1 _ _ h3),av (cP (show j+1<m+1 by omega)),?_⟩;refine⟨_,rfl,x,az,dx,_,_,rfl,T1.ob,Rc.cl,Rc.out,F_ o p e b,Bq f1 o p i (j+1),o,rfl,?_⟩;refine⟨_,rfl,by cases bq (Bq f1 o p i (j+1)) o<;>cases Bq f1 o p (i+1) (j+1)<;>rfl,_,rfl,?_⟩;rw[GB];refine bu (fun hh=>?_) (fun hh=>?_)
   ·have hh:bq (Bq f1 o p i (j+1)) o=Bq f1 o p (i+1) (j+1):=of_decide_eq_true hh;rw[Xo hh];refine⟨_,rfl, .inl ⟨rfl,_, .of DU⟩,_,rfl,_,_,rfl,rfl,_,rfl,aD Xr,fun t ht=>?_⟩;refine⟨r,_,_,rfl,rfl,au.upd ht _ _ DU,a_ Xr,_,rfl,(s1.trans (au.upd ht)).eQ qd,ae,rfl,fun k f hf=>?_⟩;have hk:k=0:=by
     have:=(Xd hf).1;simp at this;omega
    subst hk;have hf:((i:Int),((j+1:Nat):Int))=f:=by simpa using hf
    subst hf;refine⟨t,rfl,?_⟩;rw[af (fun z=>by subst z;rw[DU]at ht;cases ht),ae];rw[show((i+1:Nat):Int)-1=(i:Int) by omega];rfl
   ·have hh:¬bq (Bq f1 o p i (j+1)) o=Bq f1 o p (i+1) (j+1):=by simpa using hh
    rw[Xk hh];exact⟨[],rfl,s1,DU, .nil⟩
  rintro σ H2 ⟨us,rfl,s2,X1,P2⟩;have T2:=TR.keep s2;have WE:us.length≤1:=by
   rw[P2.1];split<;>simp
  have eb:si (cN (m+1) (Bq f1 o p (i+1))) (((j+1:Nat):Int)-1)=some (bD (Bq f1 o p (i+1) j)):=by
   rw[show((j+1:Nat):Int)-1=(j:Int) by omega];exact av (cP (show j<m+1 by omega))
  refine⟨fun σ H3=>∃us,σ=[some (.ref x),some (.ref cr),some (.int ((i+1:Nat):Int)),some (.int ((j+1:Nat):Int)),some (bD (Bq f1 o p (i+1) (j+1))),some (.ref r)]∧au H H3∧H3 r=some (.lst us)∧f' H3 us (bg f1 o p i j),?_,?_⟩
  ·refine⟨_,rfl,x,az,dx,_,_,rfl,T2.ob,Rc.cl,Rc.iK,gc o p e b,_,rfl,b,_,_,_,rfl,rfl, .of T2.hb,av g2,_,rfl,_,_,rfl,rfl,rb,_,_,_,rfl,rfl, .of (s2 _ _ g3),eb,?_⟩;refine⟨_,rfl,x,az,dx,_,_,rfl,T2.ob,Rc.cl,Rc.into,Cy o p e b,Bq f1 o p (i+1) j,p,rfl,?_⟩;refine⟨_,rfl,by cases bq (Bq f1 o p (i+1) j) p<;>cases Bq f1 o p (i+1) (j+1)<;>rfl,_,rfl,?_⟩;rw[GB];refine bu (fun hh=>?_) (fun hh=>?_)
   ·have hh:bq (Bq f1 o p (i+1) j) p=Bq f1 o p (i+1) (j+1):=of_decide_eq_true hh;refine⟨_,rfl, .inl ⟨rfl,_, .of X1⟩,_,rfl,_,rfl,_,_,rfl,rfl,aD Xr,fun t ht=>?_⟩;have s3:=au.upd (o:= .tup [.int ((i+1:Nat):Int), .int (((j+1:Nat):Int)-1)]) ht;have RY:t≠r:=fun z=>by subst z;rw[X1]at ht;cases ht
    refine⟨r,_,_,rfl,rfl,s3 _ _ X1,a_ Xs,_,rfl,(s2.trans s3).eQ qd,ae,?_⟩;unfold bg;rw[Xo hh];refine((P2.same s3).append ⟨rfl,fun k f hf=>?_⟩).cw fun a ys ha=>?_
    ·have hk:k=0:=by
      have:=(Xd hf).1;simp at this;omega
     subst hk;have hf:(((i+1:Nat):Int),(j:Int))=f:=by simpa using hf
     subst hf;refine⟨t,rfl,?_⟩;rw[ae,show((j+1:Nat):Int)-1=(j:Int) by omega];rfl
    ·have fj:a≠r:=fun z=>by subst z;rw[s3 _ _ X1]at ha;cases ha
     rw[af fj];exact ha
   ·have hh:¬bq (Bq f1 o p (i+1) j) p=Bq f1 o p (i+1) (j+1):=by simpa using hh
    refine⟨us,rfl,s2,X1,?_⟩;unfold bg;rw[Xk hh,List.append_nil];exact P2
  rintro σ H3 ⟨us,rfl,s3,va,P3⟩;exact⟨_,rfl,q H3 r us s3 qd va P3⟩
variable(a7:dP P w K mg base true 1 az "is_brought_by" ["self","crossing","pair"] (YK az))
variable(aW:dP P w K mg base true 2 az "crossings_before" ["self","crossing"] (qU az))
theorem bK:aJ ["self","pair","crossing","ahead"] ["self","pair"] (aq eh):=⟨rfl,rfl,rfl,by decide+kernel,rfl,by decide+kernel,by decide+kernel⟩
include T Rc a7 aW in
theorem j9{f:Addr}{fd:FuncData}(F:gM K "pair_before" "Trails.pair_before" eh f fd):aY P w K mg base (c8 P w) true 3 f fd ["self","pair"] (uP az):=by
 refine F.gL bK Xu (fun bY A outer s H vs Q E hr h hX=>?_)
 ·obtain⟨x,dx,e,b,es,bs,f,o,p,n,m,pr,i,j,rfl,_⟩:=h;rfl
 ·obtain⟨x,dx,e,b,es,bs,f1,o,p,n,m,pr,i,j,rfl,TR,XO,hi,hj,hB,q⟩:=h;refine⟨_,(Xj (W_ (2) bK.nd (pv 1)) (Xj (W_ (3) bK.nd (@fv _ _ _ _ _ (W8 (Xe fu (Xa (cX K) (pv 2) aj) aj) (W8 (Xe fu (Xa (cX K) (pv 2) aj) aj) ai)))) (Xj (@qC _ _ _ _ _ _ hX.own (@dw _ _ _ _ (@cx _ _ _ (Xf (pv 0) a7 (hr.mono (Xy)) aT (W8 (pv 2) (W8 (pv 3) ai))) (by intro _;rfl))) (Xj (W_ (2) bK.nd (Xa (ar K) (Xf (pv 0) aW (hr.mono (Xy)) aT (W8 (pv 2) ai)) aj)) (Xh (W_ (3) bK.nd (@fv _ _ _ _ _ (W8 (Xe fu (Xa (cX K) (pv 2) aj) aj) (W8 (Xe fu (Xa (cX K) (pv 2) aj) aj) ai))))))) (Xh (@aN _ _ _ _ (pv 3)))))),?_⟩;obtain⟨i,rfl⟩:∃i',i=i'+1:=by
   cases i with
   |zero=>exact absurd (gW f1 o p j) hB
   |succ i=>exact⟨i,rfl⟩
  obtain⟨j,rfl⟩:∃j',j=j'+1:=by
   cases j with
   |zero=>exact absurd (by unfold Bq;rfl) hB
   |succ j=>exact⟨j,rfl⟩
  refine⟨_,rfl,_,rfl,pr,_,_,_,rfl,rfl, .of XO,av (j:=0) rfl,_,_,rfl,rfl,_,rfl,pr,_,_,_,rfl,rfl, .of XO,av (j:=1) rfl,_,_,rfl,rfl,aD Xr,fun t ht=>?_⟩;refine⟨fun mm σ H1=>∃(cr ah:Addr)(i2 j2:Nat),mm=i2+j2∧σ=[some (.ref x),some (.ref pr),some (.ref cr),some (.ref ah)]∧au H H1∧H1 cr=some (.tup [.int ((i2+1:Nat):Int), .int ((j2+1:Nat):Int)])∧H1 ah=some (.tup [.int i2, .int j2])∧i2<n∧j2<m∧Bq f1 o p (i2+1) (j2+1)≠none∧cq f1 o p (i2+1) (j2+1)=cq f1 o p (i+1) (j+1),⟨i+j,pr,t,i,j,rfl,rfl,au.upd ht,au.upd ht _ _ XO,?_,Xx,Xx,hB,rfl⟩,?_⟩
  ·rw[ae,show((i+1:Nat):Int)-1=(i:Int) by omega,show((j+1:Nat):Int)-1=(j:Int) by omega]
  rintro mm σ H1 ⟨cr,ah,i2,j2,rfl,rfl,s1,GA,RZ,DP,Qc,JZ,R0⟩;have T1:=TR.keep s1;refine⟨_,rfl,x,dx,_,rfl,T1.ob,Gk o p e b,_,rfl,_,rfl,x,dx,e,b,es,bs,f1,o,p,n,m,cr,ah,i2+1,j2+1,i2,j2,rfl,T1,GA,RZ,Xx,Xx,DP,Qc,?_⟩;refine⟨_,rfl,?_⟩;by_cases hE:cW f1 o p i2 j2=Bq f1 o p (i2+1) (j2+1)
  ·rw[decide_eq_true hE];refine ig ?_;refine⟨_,rfl,q H1 ah s1 ?_⟩;have:cq f1 o p (i2+1) (j2+1)=(i2,j2):=by unfold cq;rw[Xo hE]
   rw[←R0,this];exact RZ
  ·rw[decide_eq_false hE];refine ko ?_;refine⟨_,fun bo H' z=>z,?_⟩;obtain⟨i3,j3,c0,c1,c2,c3,c4,c5⟩:=wN JZ hE;refine⟨_,rfl,x,dx,_,rfl,T1.ob,Y_ o p e b,_,rfl,x,dx,e,b,es,bs,f1,o,p,n,m,cr,i2,j2,rfl,T1,GA,DP,Qc,fun H2 r us s2 qd X1 P2=>?_⟩;obtain⟨t2,k1,k2⟩:=P2.2 0 _ c0;refine⟨r,_,_,_,rfl,rfl, .of X1,av (j:=0) k1,?_⟩;refine⟨_,rfl,t2,_,_,_,rfl,rfl, .of k2,av (j:=0) rfl,_,_,rfl,rfl,_,rfl,t2,_,_,_,rfl,rfl, .of k2,av (j:=1) rfl,_,_,rfl,rfl,aD Xr,fun t3 R1=>?_⟩;refine⟨i3+j3,Xx,t2,t3,i3,j3,rfl,rfl,s1.trans (s2.trans (au.upd R1)),au.upd R1 _ _ k2,?_,Xx,Xx,c4,by rw[c5,R0]⟩;rw[ae];show some (HO.tup [.int (((i3+1:Nat):Int)-1), .int (((j3+1:Nat):Int)-1)])=_;rw[show((i3+1:Nat):Int)-1=(i3:Int) by omega,show((j3+1:Nat):Int)-1=(j3:Int) by omega]
variable(bQ:dP P w K mg base true 1 az "goes_on" ["self","pair"] (uO az))
variable(cR:dP P w K mg base true 3 az "pair_before" ["self","pair"] (uP az))
theorem jt:aJ ["self","pair","way"] ["self","pair"] (aq gP):=⟨rfl,rfl,rfl,by decide+kernel,rfl,by decide+kernel,by decide+kernel⟩
include T Rc bQ cR in
theorem o_{f:Addr}{fd:FuncData}(F:gM K "way_to" "Trails.way_to" gP f fd):aY P w K mg base (c8 P w) true 4 f fd ["self","pair"] (YR az):=by
 refine F.gL jt Xu (fun bY A outer s H vs Q E hr h hX=>?_)
 ·obtain⟨x,dx,e,b,es,bs,f,o,p,n,m,pr,i,j,rfl,_⟩:=h;rfl
 ·obtain⟨x,dx,e,b,es,bs,f1,o,p,n,m,pr,i,j,rfl,TR,XO,hi,hj,hn,q⟩:=h;refine⟨_,(Xj (W_ (2) jt.nd (@cA _ _ _ _ (W8 (pv 1) ai))) (Xj (@qC _ _ _ _ _ _ hX.own (@cx _ _ _ (Xf (pv 0) bQ (hr.mono (Xy)) aT (W8 (Xa (ar K) (pv 2) (@pL _ _ _ _ _ _ ki aj)) ai)) (by intro _;rfl)) (Xh (@a9 _ _ _ _ (Xg K PySem.F.plainAttrs_list PySem.F.slot_list_append PySem.F.type_list_append cn (pv 2) (W8 (Xf (pv 0) cR (hr.mono (Xy)) aT (W8 (Xa (ar K) (pv 2) (@pL _ _ _ _ _ _ ki aj)) ai)) ai)) (Xz)))) (Xj (@a9 _ _ _ _ (@EI _ K _ _ _ _ _ _ _ _ PySem.F.plainAttrs_list PySem.F.slot_list_reverse PySem.F.type_list_reverse ZK (pv 2) (Xz) (Xz) (Xz)) (Xz)) (Xh (@aN _ _ _ _ (pv 2)))))),?_⟩;refine⟨_,rfl,aD Xr,fun w hw=>?_⟩;refine⟨fun mm σ H1=>∃(us:List V)(A:List (Nat×Nat))(i2 j2:Nat),mm=i2∧σ=[some (.ref x),some (.ref pr),some (.ref w)]∧au H H1∧H1 w=some (.lst us)∧f' H1 us ((A++[(i2,j2)]).map aL)∧i2<n∧j2<m∧A.length+i2≤i∧dQ f1 o p i i j=dQ f1 o p i2 i2 j2++A.reverse,⟨i,_,[],i,j,rfl,rfl,au.upd hw,ae,⟨rfl,fun k g hg=>?_⟩,hi,hj,XA,XA⟩,?_⟩
  ·have hk:k=0:=by
    have:=(Xd hg).1;simp at this;omega
   subst hk;have hg:aL (i,j)=g:=by simpa using hg
   subst hg;exact⟨pr,rfl,au.upd hw _ _ XO⟩
  rintro i2 σ H1 ⟨us,A,_,j2,rfl,rfl,s1,sD,P1,DP,Qc,hA,L'⟩;have T1:=TR.keep s1;obtain⟨t,XC,vN⟩:=P1.last Xr;rw[List.map_append,List.map_singleton,Zv]at vN;have hlen:us.length≤1001:=by have:=P1.1;simp at this;omega
  refine⟨_,rfl,x,dx,_,rfl,T1.ob,Dg o p e b,_,rfl,_,rfl,w,_,_,_,rfl,rfl, .of sD,XC,x,dx,e,b,es,bs,f1,o,p,n,m,t,i2,j2,rfl,T1,vN,Xx,Xx,?_⟩;refine⟨_,rfl,?_⟩;refine bu (fun hh=>?_) (fun hh=>?_)
  ·obtain⟨c1,c2,c3⟩:=jl hh;have hl:=(jI f1 o p i2 j2 c1 c2).resolve_right c3;refine⟨_,fun bo H' z=>z,?_⟩;refine⟨_,rfl, .inl ⟨rfl,_, .of sD⟩,_,rfl,x,dx,_,rfl,T1.ob,I0 o p e b,_,rfl,_,rfl,w,_,_,_,rfl,rfl, .of sD,XC,x,dx,e,b,es,bs,f1,o,p,n,m,t,i2,j2,rfl,T1,vN,Xx,Xx,c3,fun H2 r s2 hr=>?_⟩;have WG:r≠w:=fun z=>by subst z;rw[s2 _ _ sD]at hr;cases hr
   refine⟨w,_,_,rfl,rfl,s2 _ _ sD,a_ Xs,(cq f1 o p i2 j2).1,hl.1,us++[.ref r],A++[(i2,j2)],_,(cq f1 o p i2 j2).2,rfl,rfl,(s1.trans s2).eQ hw,ae,?_,Xx,Xx,by simp;omega,?_⟩
   ·rw[List.map_append];refine((P1.same s2).append ⟨rfl,fun k g hg=>?_⟩).cw fun a ys ha=>?_
    ·have hk:k=0:=by
      have:=(Xd hg).1;simp at this;omega
     subst hk;have hg:aL ((cq f1 o p i2 j2).1,(cq f1 o p i2 j2).2)=g:=by simpa using hg
     subst hg;exact⟨r,rfl,hr⟩
    ·have fj:a≠w:=fun z=>by subst z;rw[s2 _ _ sD]at ha;cases ha
     rw[af fj];exact ha
   ·rw[L',tV hh];simp
  ·have hh:¬f6 (Bq f1 o p i2 j2)=true:=hh;refine⟨_,rfl, .inl ⟨rfl,_, .of sD⟩,w,us,rfl,rfl,sD,?_⟩;refine⟨_,rfl,q _ w us.reverse (s1.eQ hw) hw ae ?_⟩;have e:dQ f1 o p i i j=(A++[(i2,j2)]).reverse:=by
    rw[L',gf hh];simp
   rw[e,List.map_reverse];refine⟨by rw[List.length_reverse,List.length_reverse,P1.1],fun k g hg=>?_⟩;have hk:=(Xd hg).1;rw[List.length_reverse]at hk;have hl:=P1.1;rw[List.getElem?_reverse hk]at hg;obtain⟨t3,k1,k2⟩:=P1.2 _ _ hg;refine⟨t3,by rw[List.getElem?_reverse Xs,hl];exact k1,?_⟩;have fj:t3≠w:=fun z=>by subst z;rw[sD]at k2;cases k2
   rw[af fj];exact k2
variable(Fc:Gm K aA)
theorem lM:aJ ["self","worth","way","row","pairs"] ["self","worth","way","row","pairs"] (aq e8):=⟨rfl,rfl,rfl,by decide+kernel,rfl,by decide+kernel,by decide+kernel⟩
include T Fc in
theorem lN{f:Addr}{fd:FuncData}(F:gM K "__init__" "Finding.__init__" e8 f fd):aY P w K mg base (c8 P w) true 1 f fd ["self","worth","way","row","pairs"] (qV aA):=by
 refine F.gL lM Xu (fun bY A outer s H vs Q E hr h hX=>?_)
 ·obtain⟨x,dx,a,r,p,w,rfl,_⟩:=h;rfl
 ·obtain⟨x,dx,a,r,p,w,rfl,hx,q⟩:=h;refine⟨_,(Xj (Xq K (pv 0) (pv 1)) (Xj (Xq K (pv 0) (pv 2)) (Xj (Xq K (pv 0) (pv 3)) (Xh (Xq K (pv 0) (pv 4)))))),?_⟩;have a1:=aU "worth" (.int w) [];have a2:=aU "way" (.ref a) (bf "worth" (.int w) []);have a3:=aU "row" (.ref r) (bf "way" (.ref a) (bf "worth" (.int w) []));simp only[List.length_nil]at a1;refine⟨_,rfl,_,rfl,x,aA,dx,_,rfl,hx,Fc.cl,Fc.worth,Xy,?_⟩;refine⟨_,rfl,_,rfl,x,aA,dx,_,rfl,ae,Fc.cl,Fc.way,Xx,?_⟩;refine⟨_,rfl,_,rfl,x,aA,dx,_,rfl,ae,Fc.cl,Fc.row,Xx,?_⟩;refine⟨_,rfl,_,rfl,x,aA,dx,_,rfl,ae,Fc.cl,Fc.pairs,Xx,?_⟩;rw[ft,ft,ft,I_];exact q
theorem w8:aJ ["finding"] ["finding"] (aq mn):=⟨rfl,rfl,rfl,by decide+kernel,rfl,by decide+kernel,by decide+kernel⟩
include T Fc in
theorem w9{f:Addr}{fd:FuncData}(F:jY K "order_of" "order_of" mn f fd):aY P w K mg base (c8 P w) true 1 f fd ["finding"] (qW aA):=by
 refine F.gL w8 Xu (fun bY A outer s H vs Q E hr h hX=>?_)
 ·obtain⟨x,dx,a,r,p,w,us,ps,rfl,_⟩:=h;rfl
 ·obtain⟨x,dx,a,r,p,w,us,ps,rfl,hx,hp,PS,fj,q⟩:=h;refine⟨_,(Xh (@aN _ _ _ _ (@fv _ _ _ _ _ (W8 (@pL _ _ _ _ _ _ ki (Xc K (pv 0))) (W8 (Xa (ar K) (Xc K (pv 0)) aj) ai))))),?_⟩;obtain⟨t,h1,h2⟩:=PS.first fj;refine⟨_,rfl,x,aA,dx,_,_,rfl,hx,Fc.cl,Fc.worth,jm w a r p,_,rfl,_,rfl,x,aA,dx,_,_,rfl,hx,Fc.cl,Fc.pairs,nr w a r p,p,_,_,_,rfl,rfl, .of hp,h1,aD Xr,fun k hk=>?_⟩;exact q _ k t (au.upd hk) ae (au.upd hk _ _ h2)
variable(eY:dP P w K mg base true 4 az "way_to" ["self","pair"] (YR az))
variable(jR:lS P w K mg base true 1 "Finding" aA ["self","worth","way","row","pairs"] [] (qV aA))
theorem eZ:aJ ["trails","worth","pairs","ends","way","row"] ["trails","worth","pairs"] (aq eA):=⟨rfl,rfl,rfl,by decide+kernel,rfl,by decide+kernel,by decide+kernel⟩
include T Rc eY jR in
theorem qe{f:Addr}{fd:FuncData}(F:jY K "make_finding" "make_finding" eA f fd):aY P w K mg base (c8 P w) true 6 f fd ["trails","worth","pairs"] (YG az aA):=by
 refine F.gL eZ Xu (fun bY A outer s H vs Q E hr h hX=>?_)
 ·obtain⟨x,dx,e,b,es,bs,f,o,p,n,m,w,pr,us,ps,q0,rfl,_⟩:=h;rfl
 ·obtain⟨x,dx,e,b,es,bs,f1,o,p,n,m,w,pr,us,ps,q0,rfl,TR,XO,PS,m4,h0,hn,Br,q⟩:=h;refine⟨_,(Xn (@jC _ _ _ _ _ _ _ _ _ _ _ _ _ _ _ (3) _ _ (by exact rfl) eZ.nd Xw (by exact rfl) (show ba ["trails","worth","pairs","ends","way","row"] (aq eA) _ ["pair"] [0,1] ["trails","worth"]from⟨rfl,by decide+kernel,by decide+kernel,by decide+kernel,rfl,rfl,by decide+kernel,by decide+kernel,by decide+kernel⟩) (@bB _ K _ _ _ (pv 2) (Xz)) (fun _ _ _ _ _=>(W' (0) (show(["pair","trails","worth"]:List Str).Nodup by decide+kernel) (Or.inl rfl))) (fun _ _ _ _ _=>(@Yd _ _ _ (@aV _ _ _ _ _ _ _ _ iH (Xa (ar K) (Xa (ar K) (Xc K (pv 1)) (Xa (cX K) (pv 0) aj)) (Xa (cX K) (pv 0) aj)) (pv 2) (aX _)))) (fun _ _ _ _ _=>(pv 0)) (Xz) (by intro _;rfl)) (Xn (W_ (4) eZ.nd (Xf (pv 0) eY (hr.mono (Xy)) aT (W8 (Xa (ar K) (pv 3) aj) ai))) (Xn (@jC _ _ _ _ _ _ _ _ _ _ _ _ _ _ _ (5) _ _ (by exact rfl) eZ.nd Xw (by exact rfl) (show ba ["trails","worth","pairs","ends","way","row"] (aq eA) _ ["i","j"] [0] ["trails"]from⟨rfl,by decide+kernel,by decide+kernel,by decide+kernel,rfl,rfl,by decide+kernel,by decide+kernel,by decide+kernel⟩) (@bB _ K _ _ _ (pv 4) (Xz)) (fun _ _ _ _ _=>(@iI _ K _ _ _ (2) _ (by exact rfl) (@bI _ _ _ _ _ (W' (0) (show(["i","j","trails"]:List Str).Nodup by decide+kernel) (Or.inl rfl)) (@bI _ _ _ _ _ (W' (1) (show(["i","j","trails"]:List Str).Nodup by decide+kernel) (Or.inl rfl)) iG (Xz)) (Xz)) (Xz) (Xz) (Xz))) (fun _ _ _ _ _=>fA) (fun _ _ _ _ _=>(Xa (ar K) (Xa (ar K) (Xc K (pv 2)) (pv 0)) (pv 1))) (Xz) (by intro _;rfl)) (Xh (@aN _ _ _ _ (@qu _ _ _ _ _ _ _ _ _ _ _ _ _ _ jR (hr.mono (Xy)) hX.pass (W8 (pv 1) (W8 (pv 4) (W8 (pv 5) (W8 (pv 2) ai)))) (Xz) (Xy) (Xz) (Xz))))))),?_⟩;have Ma:us.length=ps.length:=by have:=PS.1;simpa using this
  refine⟨fun σ H1=>∃D vs,σ=[some (.ref x),some (.int w),some (.ref pr),some (.ref D),none,none]∧au H H1∧H1 D=some (.lst vs)∧f' H1 vs ((ps.filter fun q=>decide (cW f1 o p q.1 q.2=some w)).map aL),?_,?_⟩
  ·refine⟨_,rfl,pr,rfl,⟨_, .of XO⟩,fun D hD=>?_⟩;refine jj (xs:=us) (fun k ys bo H'=>(∃u,bo=[u,some (.ref x),some (.int w)])∧f' H ys (((ps.take k).filter fun q=>decide (cW f1 o p q.1 q.2=some w)).map aL)∧H' D=some (.lst ys)∧au H H'∧ys.length≤k) ⟨⟨_,rfl⟩, .nil,ae,au.upd hD,XA⟩ ?_ ?_ ?_
   ·rintro k ys bo H' _ ⟨_,_,_,s1,_⟩;exact .of (s1 _ _ XO)
   ·rintro k v ys bo H' hv ⟨⟨u,rfl⟩,P1,qc,s1,mS⟩;have hk:k<ps.length:=by rw[←Ma];exact(Xd hv).1
    have ek:ps[k]?=some ps[k]:=by simp[hk]
    have hm:=m4 ps[k] (List.getElem_mem hk);generalize ps[k]=g at ek hm;obtain⟨t,k1,k2⟩:=PS.2 k (aL g) (by rw[List.getElem?_map,ek];rfl);rw[hv]at k1;cases k1;have T1:=TR.keep s1;have kt:=s1 _ _ k2;obtain⟨rb,g1,g2,g3⟩:=T1.te.at hm.1;have et:ps.take (k+1)=ps.take k++[g]:=by rw[List.take_succ,ek];rfl
    refine⟨_,rfl,x,az,dx,_,_,rfl,T1.ob,Rc.cl,Rc.jH,gF o p e b,_,rfl,t,_,_,_,rfl,rfl, .of kt,av (j:=0) rfl,e,_,_,_,rfl,rfl, .of T1.he,av g2,_,rfl,t,_,_,_,rfl,rfl, .of kt,av (j:=1) rfl,rb,_,_,_,rfl,rfl, .of g3,av (cP hm.2),?_⟩;have GB:decide (bD (cW f1 o p g.1 g.2)=V.int w)=decide (cW f1 o p g.1 g.2=some w):=by cases cW f1 o p g.1 g.2<;>simp[bD]
    refine⟨_,rfl,by cases cW f1 o p g.1 g.2<;>rfl,_,rfl,?_⟩;rw[GB];refine bu (fun hh=>?_) (fun hh=>?_)
    ·refine⟨_,rfl,qc,a_ Xs,⟨_,rfl⟩,?_,ae,s1.eQ hD,by simp;omega⟩;rw[et,List.filter_append,List.map_append];refine P1.append ?_;rw[show[g].filter (fun q=>decide (cW f1 o p q.1 q.2=some w))=[g] by rw[List.filter_cons,Xo hh];rfl];exact⟨rfl,fun k3 g3 NB=>by
      have Vi:k3=0:=by
       have:=(Xd NB).1;simp at this;omega
      subst Vi;have NB:aL g=g3:=by simpa using NB
      subst NB;exact⟨t,rfl,k2⟩⟩
    ·have hh:decide (cW f1 o p g.1 g.2=some w)=false:=by simpa using hh
     refine⟨⟨_,rfl⟩,?_,qc,s1,Xx⟩;rw[et,List.filter_append,show[g].filter (fun q=>decide (cW f1 o p q.1 q.2=some w))=[] by rw[List.filter_cons,hh];rfl,List.append_nil];exact P1
   ·rintro ys bo H' ⟨_,P1,qc,s1,_⟩;rw[Ma,List.take_length]at P1;exact⟨D,ys,rfl,s1,qc,P1.same s1⟩
  rintro σ H1 ⟨D,vs,rfl,s1,qc,P1⟩;obtain⟨t0,k1,k2⟩:=P1.2 0 (aL q0) (by rw[List.getElem?_map,h0];rfl);have Jq:q0.1<n∧q0.2<m:=m4 q0 (List.mem_filter.mp (Xi h0)).1;refine⟨fun σ H2=>∃wy i7,σ=[some (.ref x),some (.int w),some (.ref pr),some (.ref D),some (.ref wy),none]∧au H1 H2∧H1 wy=none∧H2 wy=some (.lst i7)∧f' H2 i7 ((dQ f1 o p q0.1 q0.1 q0.2).map aL),?_,?_⟩
  ·have T1:=TR.keep s1;exact⟨_,rfl,x,dx,_,rfl,T1.ob,LN o p e b,_,rfl,D,_,_,_,rfl,rfl, .of qc,av (j:=0) k1,x,dx,e,b,es,bs,f1,o,p,n,m,t0,q0.1,q0.2,rfl,T1,k2,Jq.1,Jq.2,hn,fun H2 wy i7 s2 h2 h3 P2=>⟨wy,i7,rfl,s2,h2,h3,P2⟩⟩
  rintro σ H2 ⟨wy,i7,rfl,s2,Qd,Bw,P2⟩;have XZ:=P2.1;rw[List.length_map]at XZ;have K1:(dQ f1 o p q0.1 q0.1 q0.2).length≤1001:=by
   have:=wO (f:=f1) (o:=o) (p:=p) q0.1 q0.1 q0.2;omega
  have Mb:=Yp (f:=f1) (o:=o) (p:=p) q0.1 q0.1 q0.2 Jq.1 Jq.2;generalize dQ f1 o p q0.1 q0.1 q0.2=W at P2 XZ K1 Mb q;refine⟨fun σ H3=>∃r,σ=[some (.ref x),some (.int w),some (.ref pr),some (.ref D),some (.ref wy),some (.ref r)]∧au H2 H3∧H2 r=none∧H3 r=some (.lst (W.map fun q=>bD (cW f1 o p q.1 q.2))),?_,?_⟩
  ·refine⟨_,rfl,wy,rfl,⟨_, .of Bw⟩,fun D2 kJ=>?_⟩;refine jj (xs:=i7) (fun k ys bo H'=>(∃u v,bo=[u,v,some (.ref x)])∧ys=(W.take k).map (fun q=>bD (cW f1 o p q.1 q.2))∧H' D2=some (.lst ys)∧au H2 H') ⟨⟨_,_,rfl⟩,rfl,ae,au.upd kJ⟩ ?_ ?_ ?_
   ·rintro k ys bo H' _ ⟨_,_,_,s3⟩;exact .of (s3 _ _ Bw)
   ·rintro k v ys bo H' hv ⟨⟨u,v2,rfl⟩,rfl,A8,s3⟩;have hk:k<W.length:=by rw[←XZ];exact(Xd hv).1
    have ek:W[k]?=some W[k]:=by simp[hk]
    have hm:=Mb W[k] (List.getElem_mem hk);generalize W[k]=g at ek hm;obtain⟨t,k1,k2⟩:=P2.2 k (aL g) (by rw[List.getElem?_map,ek];rfl);rw[hv]at k1;cases k1;have T3:=TR.keep (s1.trans (s2.trans s3));have kt:=s3 _ _ k2;obtain⟨rb,g1,g2,g3⟩:=T3.te.at hm.1;refine⟨t,_,rfl, .of kt,rfl,_,_,rfl,_,_,rfl,rfl,?_⟩;refine ux ?_;refine⟨_,rfl,x,az,dx,_,_,rfl,T3.ob,Rc.cl,Rc.jH,gF o p e b,_,rfl,e,_,_,_,rfl,rfl, .of T3.he,av g2,_,rfl,rb,_,_,_,rfl,rfl, .of g3,av (cP hm.2),?_⟩;refine⟨A8,a_ (by rw[List.length_map,List.length_take];omega),⟨_,_,rfl⟩,?_,ae,s3.eQ kJ⟩;rw[List.take_succ,ek];simp
   ·rintro ys bo H' ⟨_,rfl,A8,s3⟩;rw[XZ,List.take_length]at A8;exact⟨D2,rfl,s3,kJ,A8⟩
  rintro σ H3 ⟨r,rfl,s3,qd,va⟩;refine⟨_,rfl,_,rfl,_,rfl,_,rfl,fun y dy hy Jr fj=>?_⟩;have s4:au H3 (upd (upd H3 dy (.own y)) y (.ins aA dy [])):=(au.upd Jr).eQ hy;refine⟨y,dy,wy,r,pr,w,rfl,ae,?_⟩;refine⟨rfl,?_⟩;rw[ft];have s5:au H3 (upd (upd H3 dy (.own y)) y (.ins aA dy (lW w wy r pr))):=(au.upd Jr).eQ hy;have sH:=s1.trans (s2.trans s3);exact q _ y dy wy r i7 (sH.trans s5) (sH.free hy) (sH.free Jr) (s1.free Qd) ((s1.trans s2).free qd) ae (by rw[af fj];exact ae) (s5 _ _ (s3 _ _ Bw)) (P2.same (s3.trans s5)) (s5 _ _ va)
variable(Gc:LO K aF)
theorem mD:aJ ["self"] ["self"] (aq fF):=⟨rfl,rfl,rfl,by decide+kernel,rfl,by decide+kernel,by decide+kernel⟩
include T Gc in
theorem mE{f:Addr}{fd:FuncData}(F:gM K "__init__" "Groups.__init__" fF f fd):aY P w K mg base (c8 P w) true 1 f fd ["self"] (qX aF):=by
 refine F.gL mD Xu (fun bY A outer s H vs Q E hr h hX=>?_)
 ·obtain⟨x,dx,rfl,_⟩:=h;rfl
 ·obtain⟨x,dx,rfl,hx,q⟩:=h;refine⟨_,(Xj (Xq K (pv 0) kj) (Xh (Xq K (pv 0) kj))),?_⟩;have a1:=aU "leads" (.ref 0) [];simp only[List.length_nil]at a1;refine fun dl NC=>?_
  have n1:x≠dl:=aB hx NC;refine⟨_,rfl,x,aF,dx,_,rfl,by rw[af n1];exact hx,Gc.cl,Gc.nz,Xy,?_⟩;refine fun dm GC=>?_
  have n2:x≠dm:=fun z=>by rw[z,ae]at GC;cases GC
  have Fl:upd H dl (.dT []) dm=none:=by rw[af (Ne.symm n2)]at GC;exact GC
  have n3:dm≠dl:=fun z=>by rw[z,ae]at Fl;cases Fl
  have Mc:H dm=none:=by rw[af n3]at Fl;exact Fl
  refine⟨_,rfl,x,aF,dx,_,rfl,by rw[af n2,ae],Gc.cl,Gc.members,by have:=aU "leads" (.ref dl) [];simp at this;omega,?_⟩;rw[LP];refine q _ (fun a=>a=dl∨a=dm) ?_ ?_ ?_
  ·exact fun b u hb e=>by
    rw[af hb,af (aB e Mc),af hb,af (aB e NC)];exact e
  ·rintro a (rfl|rfl)
   ·exact NC
   ·exact Mc
  ·refine⟨dx,dl,dm,[],[],fun _=>none,fun _=>none,ae,fun z=>z.elim n1 n2,⟨?_,?_, .inl rfl, .inr rfl,Ne.symm n3,fun p=>rfl,fun p=>rfl,fun p q a e=>(by cases e),fun kv h=>(by cases h), .nil,fun l ms e=>(by cases e),fun p l e=>(by cases e),fun l ms e=>(by cases e)⟩,fun a b=>⟨False.elim,fun⟨l,e,_⟩=>(by cases e)⟩,Nat.le_refl _,Nat.le_refl _⟩
   ·rw[af (Ne.symm n1),af (Ne.symm n3),af (Ne.symm n1),ae]
   ·rw[af (Ne.symm n2),ae]
theorem sE:aJ ["self","pair"] ["self","pair"] (aq gY):=⟨rfl,rfl,rfl,by decide+kernel,rfl,by decide+kernel,by decide+kernel⟩
include T Gc in
theorem sF{f:Addr}{fd:FuncData}(F:gM K "has" "Groups.has" gY f fd):aY P w K mg base (c8 P w) true 1 f fd ["self","pair"] (YE aF):=by
 refine F.gL sE Xu (fun bY A outer s H vs Q E hr h hX=>?_)
 ·obtain⟨x,t,p,S,E1,B,rfl,_⟩:=h;rfl
 ·obtain⟨x,t,p,S,E1,B,rfl,G,ht,q⟩:=h;have hu:=hr.units;have hu:(A.deeper (PyProof.Rows.envOfC "Groups.has" (aq gY) s.heap.objs.size f bY)).units+1<cLine:=Xx;refine⟨_,(Xh (@aN _ _ _ _ (@xA _ _ _ _ _ _ (@qJ _ _ _ _ _ hu (pv 1) (Xc K (pv 0))) (by first|exact bH _ (Xy) (Xy)|rfl)))),?_⟩;obtain⟨dg,dl,dm,kl,km,ld,mm,hg,DH,D,hE,ND,JZ⟩:=G;refine⟨_,rfl,_,rfl,x,aF,dg,_,_,rfl,hg,Gc.cl,Gc.nz,iM dl dm,dl,_,rfl, .t (k:=aZ p) D.hl ht,q _ ?_⟩;rw[hE];have:=D.lv p;cases e:ld p with
  |none=>
   rw[e]at this;have this:bj kl (aZ p)=none:=this;rw[this];simp
  |some l=>
   rw[e]at this;obtain⟨t2,h1,_⟩:=this;rw[h1];simp
theorem nG:aJ ["self","pair"] ["self","pair"] (aq eM):=⟨rfl,rfl,rfl,by decide+kernel,rfl,by decide+kernel,by decide+kernel⟩
include T Gc in
theorem nH{f:Addr}{fd:FuncData}(F:gM K "take_in" "Groups.take_in" eM f fd):aY P w K mg base (c8 P w) true 1 f fd ["self","pair"] (uS aF):=by
 refine F.gL nG Xu (fun bY A outer s H vs Q E hr h hX=>?_)
 ·obtain⟨x,t,p,S,E1,B,rfl,_⟩:=h;rfl
 ·obtain⟨x,t,p,S,E1,B,rfl,G,ht,hB,q⟩:=h;have hu:=hr.units;have hu:(A.deeper (PyProof.Rows.envOfC "Groups.take_in" (aq eM) s.heap.objs.size f bY)).units+1<cLine:=Xx;refine⟨_,(Xh (Xp (Xm (@Ao _ _ _ _ _ hu (pv 1) (Xc K (pv 0)))) (Xj (@la _ _ _ _ _ _ _ _ _ hu (Xc K (pv 0)) (pv 1) (pv 1) (by exact rfl)) (Xh (@la _ _ _ _ _ _ _ _ _ hu (Xc K (pv 0)) (pv 1) (@cA _ _ _ _ (W8 (pv 1) ai)) (by exact rfl)))) aS)),?_⟩;obtain⟨dg,dl,dm,kl,km,ld,mm,hg,DH,D,hE,ND,JZ⟩:=id G;refine⟨_,rfl,_,rfl,x,aF,dg,_,_,rfl,hg,Gc.cl,Gc.nz,iM dl dm,dl,_,rfl, .t (k:=aZ p) D.hl ht,_,rfl,?_⟩;have lv:=D.lv p;cases e:ld p with
  |some l=>
   rw[e]at lv;obtain⟨t2,h1,_⟩:=lv;rw[h1];refine ig ?_;refine q H S (.same (.refl H)) (G.iff (fun a b=>?_) (Xx));unfold Gp;refine⟨fun z=>z.elim id ?_, .inl⟩;rintro⟨rfl,rfl⟩;rw[hE];exact⟨l,e,e⟩
  |none=>
   rw[e]at lv;have lv:bj kl (aZ p)=none:=lv;rw[lv];refine ko ?_;have nx:x≠dl:=fun z=>DH (z▸D.sl)
   have NG:x≠dm:=fun z=>DH (z▸D.sm)
   have Qe:t≠dl:=fun z=>by rw[z,D.hl]at ht;cases ht
   have WH:t≠dm:=fun z=>by rw[z,D.hm]at ht;cases ht
   refine⟨_,rfl,_,rfl,x,aF,dg,_,_,rfl,hg,Gc.cl,Gc.nz,iM dl dm,_,rfl,dl,_,rfl, .t (k:=aZ p) D.hl ht (a_ Xs),?_⟩;refine⟨_,rfl,aD Xr,fun a ha=>?_⟩;have na:a≠dl:=fun z=>by rw[z,ae]at ha;cases ha
   have Bv:H a=none:=by rw[af na]at ha;exact ha
   have L5:x≠a:=aB hg Bv;have R3:dm≠a:=aB D.hm Bv;have Vj:t≠a:=aB ht Bv;refine⟨_,rfl,x,aF,dg,_,_,rfl,by rw[af L5,af nx];exact hg,Gc.cl,Gc.members,hU dl dm,_,rfl,dm,_,rfl, .t (k:=aZ p) (by rw[af R3,af (Ne.symm D.ne)];exact D.hm) (by rw[af Vj,af Qe];exact ht) (a_ Xs),?_⟩;refine q _ (fun y=>S y∨y=a) ⟨fun y hy=>hy.imp id (fun z=>by rw[z];exact Bv),fun b o hb eb=>?_⟩ ?_
   ·rw[af (fun z:b=dm=>hb (by rw[z];exact D.sm)),af (aB eb Bv),af (fun z:b=dl=>hb (by rw[z];exact D.sl))];exact eb
   refine⟨dg,dl,dm,_,_,_,_,by rw[af NG,af L5,af nx];exact hg,fun z=>z.elim DH L5,D.take (t:=t) (a:=a) e ht Bv ?_ ae ?_ ?_,fun a1 b1=>?_,?_,?_⟩
   ·rw[af D.ne,af (Ne.symm na),ae]
   ·rw[af (Ne.symm R3),ae]
   ·intro b o h1 h2 eb;rw[af h2,af (aB eb Bv),af h1];exact eb
   ·unfold Gp;rw[hE];constructor
    ·rintro(⟨l,h1,h2⟩|⟨z1,z2⟩)
     ·exact⟨l,by rw[Xk (fun z=>by rw[z,e]at h1;cases h1)];exact h1,by rw[Xk (fun z=>by rw[z,e]at h2;cases h2)];exact h2⟩
     ·exact⟨p,by rw[Xo z1],by rw[Xo z2]⟩
    ·rintro⟨l,h1,h2⟩;by_cases z1:a1=p
     ·by_cases z2:b1=p
      ·exact .inr ⟨z1,z2⟩
      ·rw[Xo z1]at h1;rw[Xk z2]at h2;cases h1;obtain⟨ms,Bt⟩:=D.ml _ _ h2;have:=D.self _ _ Bt;rw[e]at this;cases this
     ·rw[Xk z1]at h1;by_cases z2:b1=p
      ·rw[Xo z2]at h2;cases h2;obtain⟨ms,Bt⟩:=D.ml _ _ h1;have:=D.self _ _ Bt;rw[e]at this;cases this
      ·rw[Xk z2]at h2;exact .inl ⟨l,h1,h2⟩
   ·exact Nat.le_trans (fh _ _ _) (Xx)
   ·exact Nat.le_trans (fh _ _ _) (Xx)
theorem cc:aJ ["self","pair","other","lead","gone","moved","member"] ["self","pair","other"] (aq eC):=⟨rfl,rfl,rfl,by decide+kernel,rfl,by decide+kernel,by decide+kernel⟩
include T Gc in
theorem qf{f:Addr}{fd:FuncData}(F:gM K "unite" "Groups.unite" eC f fd):aY P w K mg base (c8 P w) true 1 f fd ["self","pair","other"] (qY aF):=by
 refine F.gL cc Xu (fun bY A outer s H vs Q E hr h hX=>?_)
 ·obtain⟨x,t,u,p,q,S,E1,B,rfl,_⟩:=h;rfl
 ·obtain⟨x,t,u,p,q,S,E1,B,rfl,G,ht,Np,hp,hq,hB,qq⟩:=h;have hu:=hr.units;have NH:(A.deeper (PyProof.Rows.envOfC "Groups.unite" (aq eC) s.heap.objs.size f bY)).units<cLine:=Xx;have hu:(A.deeper (PyProof.Rows.envOfC "Groups.unite" (aq eC) s.heap.objs.size f bY)).units+1<cLine:=Xx;refine⟨_,(Xn (W_ (3) cc.nd (@gU _ _ _ _ _ _ hu (Xc K (pv 0)) (pv 1) (fun _ _=>rfl))) (Xn (W_ (4) cc.nd (@gU _ _ _ _ _ _ hu (Xc K (pv 0)) (pv 2) (fun _ _=>rfl))) (Xh (Xp (@aV _ _ _ _ _ _ _ _ (AX K NH) (pv 3) (pv 4) (aX _)) (Xn (Xp (@aV _ _ _ _ _ _ _ _ qF (Xb (aK K) (by exact rfl) T.dI PyProof.Rows.Boot.«len» (W8 (@gU _ _ _ _ _ _ hu (Xc K (pv 0)) (pv 3) (fun _ _=>rfl)) ai)) (Xb (aK K) (by exact rfl) T.dI PyProof.Rows.Boot.«len» (W8 (@gU _ _ _ _ _ _ hu (Xc K (pv 0)) (pv 4) (fun _ _=>rfl)) ai)) (aX _)) (Xn (W_ (3) cc.nd (@gU _ _ _ _ _ _ hu (Xc K (pv 0)) (pv 2) (fun _ _=>rfl))) (Xh (W_ (4) cc.nd (@gU _ _ _ _ _ _ hu (Xc K (pv 0)) (pv 1) (fun _ _=>rfl))))) aS) (Xn (W_ (5) cc.nd (@CC _ _ _ _ _ _ _ hu (Xc K (pv 0)) (pv 4) ⟨rfl,rfl,rfl,rfl⟩)) (Xn (@cy _ _ _ _ _ _ _ _ hX.own Xw (@bB _ K _ _ _ (pv 5) (Xz)) (W' (6) cc.nd (Or.inl rfl)) (Xh (@la _ _ _ _ _ _ _ _ _ hu (Xc K (pv 0)) (pv 6) (pv 3) (by exact rfl))) (by intro _;rfl)) (Xh (@a9 _ _ _ _ (Xg K PySem.F.plainAttrs_list PySem.F.slot_list_extend PySem.F.type_list_extend tJ (@gU _ _ _ _ _ _ hu (Xc K (pv 0)) (pv 3) (fun _ _=>rfl)) (W8 (pv 5) ai)) (Xz)))))) aS)))),?_⟩;obtain⟨dg,dl,dm,kl,km,ld,mm,hg,DH,D,hE,ND,JZ⟩:=id G;obtain⟨l,GD,_⟩:=(hE p p).mp hp;obtain⟨g,GF,_⟩:=(hE q q).mp hq;obtain⟨tl,vl,wR⟩:∃tl,bj kl (aZ p)=some (.ref tl)∧H tl=some (.tup (ke l)):=by have:=D.lv p;rw[GD]at this;exact this
  obtain⟨tg,vg,J0⟩:∃tg,bj kl (aZ q)=some (.ref tg)∧H tg=some (.tup (ke g)):=by have:=D.lv q;rw[GF]at this;exact this
  refine⟨fun σ H1=>H1=H∧σ=[some (.ref x),some (.ref t),some (.ref u),some (.ref tl),none,none,none],⟨_,rfl,x,aF,dg,_,_,rfl,hg,Gc.cl,Gc.nz,iM dl dm,_,rfl,dl,_,rfl,by have:=jh.t (k:=aZ p) D.hl ht;rw[vl]at this;exact this,rfl,rfl⟩,?_⟩;rintro σ H1 ⟨rfl,rfl⟩;refine⟨fun σ H2=>H2=H1∧σ=[some (.ref x),some (.ref t),some (.ref u),some (.ref tl),some (.ref tg),none,none],⟨_,rfl,x,aF,dg,_,_,rfl,hg,Gc.cl,Gc.nz,iM dl dm,_,rfl,dl,_,rfl,by have:=jh.t (k:=aZ q) D.hl Np;rw[vg]at this;exact this,rfl,rfl⟩,?_⟩;rintro σ H2 ⟨rfl,rfl⟩;refine⟨_,rfl,_,rfl,tl,tg,_,_,rfl,rfl, .of wR, .of J0,rfl,rfl,_,rfl,?_⟩;rw[Yl];by_cases XJ:l=g
  ·rw[decide_eq_true XJ];refine ig ?_;refine qq _ (.same (.refl _)) (G.iff (fun a b=>?_) (Nat.le_refl _));subst XJ;unfold oY;rw[hE,hE,hE,hE,hE,GD,GF];constructor
   ·rintro(z|⟨z1,z2⟩)
    ·exact z
    ·have y1:ld a=some l:=by rcases z1 with⟨y,h1,h2⟩|⟨y,h1,h2⟩<;>(cases h2;exact h1)
     have y2:ld b=some l:=by rcases z2 with⟨y,h1,h2⟩|⟨y,h1,h2⟩<;>(cases h2;exact h1)
     exact⟨l,y1,y2⟩
   ·exact .inl
  rw[decide_eq_false XJ];refine ko ?_;obtain⟨m1,DW⟩:=D.ml p l GD;obtain⟨m2,Fm⟩:=D.ml q g GF;obtain⟨al,mf,Md,XE,P1,_⟩:∃a us,bj km (aZ l)=some (.ref a)∧H2 a=some (.lst us)∧f' H2 us m1∧S a:=by have:=D.mv l;rw[DW]at this;exact this
  obtain⟨ag,i7,NI,Fn,P2,_⟩:∃a us,bj km (aZ g)=some (.ref a)∧H2 a=some (.lst us)∧f' H2 us m2∧S a:=by have:=D.mv g;rw[Fm]at this;exact this
  have gl:∀{tt:Addr}{r:Pr},H2 tt=some (.tup (ke r))→jh H2 dm (.ref tt) (bj km (aZ r)):=fun h=>jh.t (k:=aZ _) D.hm h
  have R4:∀{tt:Addr}{r:Pr},H2 tt=some (.tup (ke r))→jh H2 dl (.ref tt) (bj kl (aZ r)):=fun h=>jh.t (k:=aZ _) D.hl h
  refine⟨fun σ H3=>H3=H2∧∃l g tl tg p' q',σ=[some (.ref x),some (.ref t),some (.ref u),some (.ref tl),some (.ref tg),none,none]∧l≠g∧H2 tl=some (.tup (ke l))∧H2 tg=some (.tup (ke g))∧ld p'=some l∧ld q'=some g∧∀a b,oY E1 p q a b↔oY E1 p' q' a b,?_,?_⟩
  ·refine⟨_,rfl,x,aF,dg,_,_,rfl,hg,Gc.cl,Gc.members,hU dl dm,_,rfl,dm,_,rfl,by have:=gl wR;rw[Md]at this;exact this,al,_,rfl, .inl (.of XE),?_⟩;refine⟨_,rfl,x,aF,dg,_,_,rfl,hg,Gc.cl,Gc.members,hU dl dm,_,rfl,dm,_,rfl,by have:=gl J0;rw[NI]at this;exact this,ag,_,rfl, .inl (.of Fn),?_⟩;refine⟨_,_,rfl,rfl,_,rfl,?_⟩;refine bu (fun _=>?_) (fun _=>?_)
   ·refine⟨fun σ H3=>H3=H2∧σ=[some (.ref x),some (.ref t),some (.ref u),some (.ref tg),some (.ref tg),none,none],⟨_,rfl,x,aF,dg,_,_,rfl,hg,Gc.cl,Gc.nz,iM dl dm,_,rfl,dl,_,rfl,by have:=R4 Np;rw[vg]at this;exact this,rfl,rfl⟩,?_⟩;rintro σ H3 ⟨rfl,rfl⟩;refine⟨_,rfl,x,aF,dg,_,_,rfl,hg,Gc.cl,Gc.nz,iM dl dm,_,rfl,dl,_,rfl,by have:=R4 ht;rw[vl]at this;exact this,rfl,g,l,tg,tl,q,p,rfl,Ne.symm XJ,J0,wR,GF,GD,fun a b=>AY⟩
   ·exact⟨rfl,l,g,tl,tg,p,q,rfl,XJ,wR,J0,GD,GF,fun a b=>Iff.rfl⟩
  rintro σ H3 ⟨rfl,l,g,tl,tg,p',q',rfl,XJ,wR,J0,GD,GF,Vk⟩;obtain⟨m1,DW⟩:=D.ml p' l GD;obtain⟨m2,Fm⟩:=D.ml q' g GF;obtain⟨al,mf,Md,XE,P1,R5⟩:∃a us,bj km (aZ l)=some (.ref a)∧H3 a=some (.lst us)∧f' H3 us m1∧S a:=by have:=D.mv l;rw[DW]at this;exact this
  obtain⟨ag,i7,NI,Fn,P2,WI⟩:∃a us,bj km (aZ g)=some (.ref a)∧H3 a=some (.lst us)∧f' H3 us m2∧S a:=by have:=D.mv g;rw[Fm]at this;exact this
  have WJ:al≠ag:=fun z=>XJ (D.inj l g al Md (by rw[NI,z]))
  have l1:=D.ue (D.ms l m1 DW).1 (fun r hr=>⟨l,((D.ms l m1 DW).2 r).mp hr⟩);have l2:=D.ue (D.ms g m2 Fm).1 (fun r hr=>⟨g,((D.ms g m2 Fm).2 r).mp hr⟩);have nx:x≠dl:=fun z=>DH (by rw[z];exact D.sl)
  have NG:x≠dm:=fun z=>DH (by rw[z];exact D.sm)
  have Me:al≠dl:=fun z=>by rw[z,D.hl]at XE;cases XE
  have Mf:al≠dm:=fun z=>by rw[z,D.hm]at XE;cases XE
  have Mg:ag≠dl:=fun z=>by rw[z,D.hl]at Fn;cases Fn
  have Js:ag≠dm:=fun z=>by rw[z,D.hm]at Fn;cases Fn
  have XZ:=P2.1;refine⟨fun σ H4=>H4=upd H3 dm (.dT (ie km (aZ g)))∧σ=[some (.ref x),some (.ref t),some (.ref u),some (.ref tl),some (.ref tg),some (.ref ag),none],?_,?_⟩
  ·exact⟨_,rfl,x,aF,dg,_,_,rfl,hg,Gc.cl,Gc.members,hU dl dm,dm,rfl, .inr ⟨km, .of D.hm⟩,_,rfl,dm,tg,km,aZ g,_,rfl,rfl,D.hm,J0,NI,rfl,rfl⟩
  rintro σ H4 ⟨rfl,rfl⟩;refine⟨fun σ H5=>(∃w,σ=[some (.ref x),some (.ref t),some (.ref u),some (.ref tl),some (.ref tg),some (.ref ag),w])∧∃so,H5 dl=some (.dT so)∧so.length≤B∧(∀r,bj so (aZ r)=if r∈m2 then some (.ref tl)else bj kl (aZ r))∧SameBut dl (upd H3 dm (.dT (ie km (aZ g)))) H5,?_,?_⟩
  ·refine⟨_,rfl,ag,rfl,⟨_, .of (by rw[af Js];exact Fn)⟩,?_⟩;refine cz (xs:=i7) (fun i σ H5=>(∃w,σ=[some (.ref x),some (.ref t),some (.ref u),some (.ref tl),some (.ref tg),some (.ref ag),w])∧∃so,H5 dl=some (.dT so)∧so.length≤B∧(∀r,bj so (aZ r)=if r∈m2.take i then some (.ref tl)else bj kl (aZ r))∧SameBut dl (upd H3 dm (.dT (ie km (aZ g)))) H5) ?_ ?_ ?_ ?_
   ·exact⟨⟨_,rfl⟩,kl,by rw[af D.ne];exact D.hl,ND,fun r=>XA, .refl⟩
   ·rintro i σ H5 _ ⟨_,so,_,_,_,s5⟩;exact .of (s5 _ _ Mg (by rw[af Js];exact Fn))
   ·rintro i v σ H5 hv ⟨⟨w,rfl⟩,so,h5,J1,Jt,s5⟩;have hi:i<m2.length:=by rw[←XZ];exact(Xd hv).1
    have ei:m2[i]?=some m2[i]:=by simp[hi]
    have ip:m2[i]∈m2:=List.getElem_mem hi;generalize m2[i]=r0 at ei ip;obtain⟨tr,k1,k2⟩:=P2.2 i r0 ei;rw[hv]at k1;cases k1;have RY:tr≠dl:=fun z=>by rw[z,D.hl]at k2;cases k2
    have Qf:tr≠dm:=fun z=>by rw[z,D.hm]at k2;cases k2
    have k5:=s5 tr _ RY (by rw[af Qf];exact k2);have g5:=s5 x _ nx (by rw[af NG];exact hg);refine⟨_,rfl,_,rfl,x,aF,dg,_,_,rfl,g5,Gc.cl,Gc.nz,iM dl dm,_,rfl,dl,_,rfl, .t (k:=aZ r0) h5 k5 (a_ Xs),⟨_,rfl⟩,_,ae,?_,fun r=>?_,s5.upd⟩
    ·have m4:bj so (aZ r0)≠none:=by
      rw[Jt];split
      ·simp
      ·have:=D.lv r0;rw[((D.ms g m2 Fm).2 r0).mp ip]at this;obtain⟨t0,z,_⟩:=this;rw[z];simp
     have:(putK so (aZ r0) (.ref tl)).length=so.length:=by
      unfold putK;rw[gC,Xo (by cases z:bj so (aZ r0)<;>simp_all),List.length_map]
     omega
    ·rw[jf,Jt];have et:m2.take (i+1)=m2.take i++[r0]:=by rw[List.take_succ,ei];rfl
     rw[et];by_cases e:r=r0
     ·rw[Xo (by rw[e]),Xo (by simp[e])]
     ·rw[Xk (fun z=>e (c_ z))];by_cases e2:r∈m2.take i
      ·rw[Xo e2,Xo (by simp[e2])]
      ·rw[Xk e2,Xk (by simp[e,e2])]
   ·rintro σ H5 ⟨⟨w,rfl⟩,so,h5,J1,Jt,s5⟩;rw[XZ,List.take_length]at Jt;exact⟨⟨_,rfl⟩,so,h5,J1,Jt,s5⟩
  rintro σ H5 ⟨⟨w,rfl⟩,so,h5,J1,Jt,s5⟩;have Qe:tl≠dl:=fun z=>by rw[z,D.hl]at wR;cases wR
  have Qg:tl≠dm:=fun z=>by rw[z,D.hm]at wR;cases wR
  have g5:=s5 x _ nx (by rw[af NG];exact hg);have m5:=s5 dm _ (Ne.symm D.ne) ae;have R6:=s5 al _ Me (by rw[af Mf];exact XE);have Vl:=s5 ag _ Mg (by rw[af Js];exact Fn);have Vm:=s5 tl _ Qe (by rw[af Qg];exact wR);have vd:bj (ie km (aZ g)) (aZ l)=some (.ref al):=by rw[lq,Xk (fun z=>XJ (c_ z))];exact Md
  refine⟨_,rfl,x,aF,dg,_,_,rfl,g5,Gc.cl,Gc.members,hU dl dm,_,rfl,dm, .ref al,rfl,by have:=jh.t (k:=aZ l) m5 Vm;rw[vd]at this;exact this, .inl ⟨rfl,_, .of R6⟩,_,rfl,al,ag,mf,i7,rfl,rfl,R6,Vl,?_,?_⟩
  ·have:=P1.1;exact aD Xs
  have Vn:x≠al:=fun z=>DH (by rw[z];exact R5)
  have GG:∀b o,¬S b→H3 b=some o→upd H5 al (.lst (mf++i7)) b=some o:=fun b o hb eb=>by
   rw[af (fun z=>hb (by rw[z];exact R5))];exact s5 b o (fun z=>hb (by rw[z];exact D.sl)) (by rw[af (fun z=>hb (by rw[z];exact D.sm))];exact eb)
  refine qq _ ⟨fun _ h=> .inl h,GG⟩ ?_;refine⟨dg,dl,dm,so,ie km (aZ g),_,_,GG x _ DH hg,DH,D.LS (tl:=tl) XJ DW Fm Md P1 P2 XE wR Jt (by rw[af (Ne.symm Me)];exact h5) (by rw[af (Ne.symm Mf)];exact m5) ae ?_,fun a b=>(Vk a b).trans (Jc XJ GD GF (D.ms g m2 Fm).2 hE a b),J1,Nat.le_trans (v8 _ _) JZ⟩;intro b o h1 h2 h3 eb;rw[af h3];exact s5 b o h1 (by rw[af h2];exact eb)
variable(iw:mg "sorted"=none)
theorem rC:aJ ["self"] ["self"] (aq gv):=⟨rfl,rfl,rfl,by decide+kernel,rfl,by decide+kernel,by decide+kernel⟩
include T Gc iw in
theorem rD{f:Addr}{fd:FuncData}(F:gM K "told" "Groups.told" gv f fd):aY P w K mg base (c8 P w) true 1 f fd ["self"] (uT aF):=by
 refine F.gL rC Xu (fun bY A outer s H vs Q E hr h hX=>?_)
 ·obtain⟨x,S,E1,B,rfl,_⟩:=h;rfl
 ·obtain⟨x,S,E1,B,rfl,G,hB,q⟩:=h;refine⟨_,(Xh (@aN _ _ _ _ (@lh _ _ _ _ _ _ _ _ _ _ _ _ _ _ (by exact rfl) (show ba ["self"] (aq gv) _ ["members"] [] []from⟨rfl,by decide+kernel,by decide+kernel,by decide+kernel,rfl,rfl,by decide+kernel,by decide+kernel,by decide+kernel⟩) (@EO _ H _ _ _ _ _ (Xc K (pv 0)) (Xz) (Xz) (Xz)) (fun _ _ _ _ _=>(W' (0) (show(["members"]:List Str).Nodup by decide+kernel) (Or.inl rfl))) (fun _ _ _ _ _=>fA) (fun _ _ _ _ _=>(Xb (Zg K) (by exact rfl) iw PyProof.Rows.Boot.«sorted» (W8 (pv 0) ai))) (by intro _;rfl)))),?_⟩;obtain⟨dg,dl,dm,kl,km,ld,mm,hg,DH,D,hE,ND,JZ⟩:=G;refine⟨_,rfl,x,aF,dg,_,_,rfl,hg,Gc.cl,Gc.members,hU dl dm,dm,km,rfl,D.hm,fun o nf R hR=>?_⟩;have nR:R≠dm:=fun z=>by rw[z,ae]at hR;cases hR
  have Qh:H R=none:=by rw[af nR]at hR;exact hR
  refine AV (fun k ys bo H'=>(∃u,bo=[u])∧(∃gs,fC H' ys gs∧gs.length=k∧∀(i:Nat) ps,gs[i]?=some ps→∃l ms v,km[i]?=some (aZ l,v)∧mm l=some ms∧ps.Perm ms∧ps.Pairwise fun p q=>iL p q=true)∧H' R=some (.lst ys)∧(∀b o,b≠dm→H b=some o→H' b=some o)∧H' dm=some (.qo o (.dT km))∧∀(i:Nat) a,ys[i]?=some (.ref a)→H a=none∧a≠R) ⟨⟨_,rfl⟩,⟨[], .nil,rfl,fun i ps e=>by simp at e⟩,ae,fun b o hb e=>by rw[af (aB e Qh),af hb];exact e,by rw[af (Ne.symm nR),ae],fun i a e=>by simp at e⟩ ?_ ?_ ?_
  ·rintro k ys bo H' _ ⟨_,_,_,_,h4,_⟩;exact h4
  ·rintro k ⟨key,v⟩ ys bo H' hk ⟨⟨u,rfl⟩,⟨gs,W1,hl,J2⟩,Mh,J3,GC,Ap⟩;obtain⟨l,el⟩:=D.key _ (Xi hk);have el:key=aZ l:=el;subst el;have vv:=Z1 D.XH hk;have mv:=D.mv l;cases e:mm l with
   |none=>
    rw[e]at mv;have mv:bj km (aZ l)=none:=mv;rw[mv]at vv;cases vv
   |some ms=>
    rw[e]at mv;obtain⟨a,us,z1,z2,z3,z4⟩:=mv;rw[vv]at z1;cases z1;obtain⟨nd,Bt⟩:=D.ms l ms e;have Qi:a≠dm:=fun z=>by rw[z,D.hm]at z2;cases z2
    have T:eV H H':=fun b v hb=>J3 b _ (fun z=>by rw[z,D.hm]at hb;cases hb) hb
    refine kr ?_;refine⟨_,rfl,a,us,ms,rfl, .of (J3 _ _ Qi z2),z3.cw T,nd,by have:=D.ue nd (fun p hp=>⟨l,(Bt p).mp hp⟩);omega,fun D2 R7 qs kJ P2 perm pw=>?_⟩;have NJ:D2≠R:=fun z=>by rw[z,Mh]at kJ;cases kJ
    have R8:D2≠dm:=fun z=>by rw[z,GC]at kJ;cases kJ
    have Mi:H D2=none:=by
     cases z:H D2 with
     |none=>rfl
     |some o2=>rw[J3 D2 o2 R8 z]at kJ;cases kJ
    have Vo:=W1.1;have RG:k<km.length:=(Xd hk).1;refine⟨by rw[af (Ne.symm NJ)];exact Mh,a_ Xs,⟨_,rfl⟩,⟨gs++[qs],?_,by simp;omega,fun i ps hi=>?_⟩,ae,fun b o hb eb=>?_,?_,fun i a ha=>?_⟩
    ·have W2:fC (upd H' D2 (.lst R7)) ys gs:=W1.same (au.upd kJ);have W3:fC (upd H' D2 (.lst R7)) (ys++[.ref D2]) (gs++[qs]):=W2.append (.one ae (P2.same (au.upd kJ)));refine W3.put (fun i e=>?_) (by rw[af (Ne.symm NJ)];exact Mh);by_cases hi:i<ys.length
     ·rw[List.getElem?_append_left hi]at e;exact(Ap i R e).2 rfl
     ·have:=(Xd e).1;have:i=ys.length:=by simp at this;omega
      subst this;simp at e;exact NJ e
    ·by_cases DP:i<gs.length
     ·rw[List.getElem?_append_left DP]at hi;exact J2 i ps hi
     ·have:=(Xd hi).1;have:i=gs.length:=by simp at this;omega
      subst this;simp at hi;subst hi;exact⟨l,ms,_,by rw[hl];exact hk,e,perm,pw⟩
    ·rw[af (aB eb Qh),af (aB eb Mi)];exact J3 b o hb eb
    ·rw[af (Ne.symm nR),af (Ne.symm R8)];exact GC
    ·by_cases hi:i<ys.length
     ·rw[List.getElem?_append_left hi]at ha;exact Ap i a ha
     ·have:=(Xd ha).1;have:i=ys.length:=by simp at this;omega
      subst this;simp at ha;subst ha;exact⟨Mi,NJ⟩
  ·rintro ys bo H' ⟨_,⟨gs,W1,hl,J2⟩,Mh,J3,GC,Ap⟩;refine q _ R ys gs ⟨fun a h=> .inl h,fun b o hb eb=>J3 b o (fun z=>hb (by rw[z];exact D.sm)) eb⟩ Qh Mh W1 (fun k a h=>(Ap k a h).1) ?_;have at_:∀ps∈gs,∃l ms,mm l=some ms∧ps.Perm ms∧ps.Pairwise (fun p q=>iL p q=true):=fun ps Br=>by
    obtain⟨i,hi⟩:=List.getElem?_of_mem Br;obtain⟨l,ms,v,_,h2,h3,h4⟩:=J2 i ps hi;exact⟨l,ms,h2,h3,h4⟩
   refine⟨fun ps Br=>?_,fun ps Br=>?_,fun ps Br a ha b=>?_,fun a ha=>?_,?_⟩
   ·obtain⟨_,_,_,_,h4⟩:=at_ ps Br
    exact h4
   ·obtain⟨l,ms,h2,h3,_⟩:=at_ ps Br
    intro z;subst z;have:l∈ms:=((D.ms l ms h2).2 l).mpr (D.self l ms h2);have:=h3.mem_iff.mpr this;cases this
   ·obtain⟨l,ms,h2,h3,_⟩:=at_ ps Br
    have ha:=((D.ms l ms h2).2 a).mp (h3.mem_iff.mp ha);rw[h3.mem_iff,(D.ms l ms h2).2,hE,ha];exact⟨fun z=>⟨l,rfl,z⟩,fun⟨y,h,z⟩=>by cases h;exact z⟩
   ·obtain⟨l,h1,_⟩:=(hE a a).mp ha;obtain⟨ms,Bt⟩:=D.ml a l h1;have mv:=D.mv l;rw[Bt]at mv;obtain⟨aa,us,z1,_⟩:=mv;obtain⟨i,hi⟩:=wQ z1;have gT:i<gs.length:=by rw[hl];exact(Xd hi).1
    obtain⟨l2,Vp,v,h5,h6,h7,_⟩:=J2 i gs[i] (by simp[gT]);rw[hi]at h5;have:l=l2:=c_ (Prod.mk.inj (Option.some.inj h5)).1;subst this;refine⟨gs[i],List.getElem_mem gT,h7.mem_iff.mpr ?_⟩;exact((D.ms l Vp h6).2 a).mpr h1
   ·rw[List.pairwise_iff_getElem];intro i j hi hj r6 a ha hb;obtain⟨l1,m1,v1,a1,a2,a3,_⟩:=J2 i gs[i] (by simp[hi]);obtain⟨l2,m2,v2,b1,b2,b3,_⟩:=J2 j gs[j] (by simp[hj]);have ha:=((D.ms l1 m1 a2).2 a).mp (a3.mem_iff.mp ha);have hb:=((D.ms l2 m2 b2).2 a).mp (b3.mem_iff.mp hb);rw[ha]at hb;cases hb;have nd:=D.XH;have h1:(km.map (·.1))[i]?=some (aZ l1):=by rw[List.getElem?_map,a1];rfl
    have h2:(km.map (·.1))[j]?=some (aZ l1):=by rw[List.getElem?_map,b1];rfl
    have:=(List.getElem?_inj (Xd h1).1 nd).mp (h1.trans h2.symm);omega
variable(lE:lS P w K mg base true 1 "Groups" aF ["self"] [] (qX aF))
variable(Hc:Gs K ax)
theorem j_:aJ ["self","trails","worth"] ["self","trails","worth"] (aq eD):=⟨rfl,rfl,rfl,by decide+kernel,rfl,by decide+kernel,by decide+kernel⟩
include T lE Hc in
theorem ka{f:Addr}{fd:FuncData}(F:gM K "__init__" "Gathering.__init__" eD f fd):aY P w K mg base (c8 P w) true 3 f fd ["self","trails","worth"] (oZ ax aF):=by
 refine F.gL j_ Xu (fun bY A outer s H vs Q E hr h hX=>?_)
 ·obtain⟨x,dx,tr,W,rfl,_⟩:=h;rfl
 ·obtain⟨x,dx,tr,W,rfl,hx,q⟩:=h;refine⟨_,(Xj (Xq K (pv 0) (pv 1)) (Xj (Xq K (pv 0) (pv 2)) (Xj (Xq K (pv 0) (@Df _ _ _ _ _ _ _ _ _ _ _ lE (hr.mono (Xy)) hX.pass (Xz) (Xy))) (Xh (Xq K (pv 0) kj))))),?_⟩;refine⟨_,rfl,_,rfl,x,ax,dx,_,rfl,hx,Hc.cl,Hc.q_,Xy,?_⟩;refine⟨_,rfl,_,rfl,x,ax,dx,_,rfl,ae,Hc.cl,Hc.worth,by have:=aU "trails" (.ref tr) [];simp at this;omega,?_⟩;rw[ft];refine fun g dg hg NK fj=>?_
  have Mj:x≠g:=fun z=>by rw[←z,ae]at hg;cases hg
  have Qj:x≠dg:=fun z=>by rw[←z,ae]at NK;cases NK
  have Ml:H g=none:=by rw[af (Ne.symm Mj)]at hg;exact hg
  have Mm:H dg=none:=by rw[af (Ne.symm Qj)]at NK;exact NK
  refine⟨g,dg,rfl,ae,fun H1 S1 vO Qk G1=>⟨rfl,?_⟩⟩;have keep:∀b o,b≠x→H b=some o→H1 b=some o:=fun b o hb e=>vO b o (aB e Ml) (by rw[af (aB e Ml),af (aB e Mm),af hb];exact e)
  have lV:H1 x=some (.ins ax dx (bf "worth" (.int W) (bf "trails" (.ref tr) []))):=vO x _ Mj (by rw[af Mj,af Qj];exact ae);have l2:(bf "worth" (.int W) (bf "trails" (.ref tr) [])).length≤2:=by
   have:=aU "trails" (.ref tr) [];have:=aU "worth" (.int W) (bf "trails" (.ref tr) []);simp at*;omega
  refine⟨_,rfl,x,ax,dx,_,rfl,lV,Hc.cl,Hc.groups,Xx,?_⟩;refine fun dk NL=>?_
  have J4:x≠dk:=fun z=>by rw[←z,ae]at NL;cases NL
  have DI:H1 dk=none:=by rw[af (Ne.symm J4)]at NL;exact NL
  have Ql:H dk=none:=by
   cases e:H dk with
   |none=>rfl
   |some o=>rw[keep dk o (Ne.symm J4) e]at DI;cases DI
  refine⟨_,rfl,x,ax,dx,_,rfl,by rw[af J4];exact ae,Hc.cl,Hc.marks,by have:=aU "groups" (.ref g) (bf "worth" (.int W) (bf "trails" (.ref tr) []));omega,?_⟩;rw[Jg];have NM:¬S1 x:=fun z=>by
   have:=Qk x z;rw[af Mj,af Qj,ae]at this;cases this
  have Vq:¬S1 g:=fun z=>by
   have:=Qk g z;rw[ae]at this;cases this
  have G2:=G1.nt;have fin:∀b o,b≠x→H1 b=some o→upd (upd (upd H1 x (.ins ax dx (bf "groups" (.ref g) (bf "worth" (.int W) (bf "trails" (.ref tr) []))))) dk (.dT [])) x (.ins ax dx (i_ tr W g dk)) b=some o:=fun b o hb e=>by
   rw[af hb,af (aB e DI),af hb];exact e
  have Qm:¬(S1 dk∧NT H1 dk):=fun z=>by
   obtain⟨o,e,_⟩:=z.2;rw[DI]at e;cases e
  refine q _ (fun a=>(S1 a∧NT H1 a)∨a=dk) (fun b o hb e=>fin b o hb (keep b o hb e)) (fun a ha=>?_) ⟨dx,g,dk,[],fun a=>S1 a∧NT H1 a,ae,G2.keep (fun a o hs e=>fin a o (fun z=>NM (by rw[←z];exact hs.1)) e) (fun b v hb=>fin b _ (fun z=>by rw[z,lV]at hb;cases hb) hb) (fun o e=>fin g o (Ne.symm Mj) e),by rw[af (Ne.symm J4),ae],fun c=>rfl,Nat.le_refl _,fun a=>Iff.rfl,Qm,fun z=>z.elim (fun y=>NM y.1) J4,fun z=>z.elim (fun y=>Vq y.1) (fun y=>?_),fun a ha=>?_⟩
  ·rcases ha with ha|ha
   ·have:=Qk a ha.1;cases e:H a with
    |none=>rfl
    |some o=>rw[af (aB e Ml),af (aB e Mm),af (fun z=>NM (by rw[←z];exact ha.1)),e]at this;cases this
   ·rw[ha];exact Ql
  ·obtain⟨WK,dl,dm,kl,E6,ld,mm,og,_⟩:=G1;rw[y,DI]at og;cases og
  ·rcases ha with⟨h1,o,h2,h3⟩|ha
   ·exact⟨o,fin a o (fun z=>NM (by rw[←z];exact h1)) h2,h3⟩
   ·exact⟨_,by rw[ha,af (Ne.symm J4),ae],fun v=>(XA)⟩
variable(cC:dP P w K mg base true 1 aF "unite" ["self","pair","other"] (qY aF))
theorem nI:aJ ["self","crossing","pair"] ["self","crossing","pair"] (aq eO):=⟨rfl,rfl,rfl,by decide+kernel,rfl,by decide+kernel,by decide+kernel⟩
include T Hc cC in
theorem nJ{f:Addr}{fd:FuncData}(F:gM K "mark" "Gathering.mark" eO f fd):aY P w K mg base (c8 P w) true 2 f fd ["self","crossing","pair"] (rf ax aF):=by
 refine F.gL nI Xu (fun bY A outer s H vs Q E hr h hX=>?_)
 ·obtain⟨x,tc,tp,tr,W,c,r,S,s1,B,M,rfl,_⟩:=h;rfl
 ·obtain⟨x,tc,tp,tr,W,c,r,S,s1,B,M,rfl,G,hc,hp,Jd,h0,hB,hM,q⟩:=h;have hu:=hr.units;have hu:(A.deeper (PyProof.Rows.envOfC "Gathering.mark" (aq eO) s.heap.objs.size f bY)).units+1<cLine:=Xx;refine⟨_,(Xh (Xp (Xm (@qJ _ _ _ _ _ hu (pv 1) (Xc K (pv 0)))) (Xh (@a9 _ _ _ _ (Xf (Xc K (pv 0)) cC (hr.mono (Xy)) aT (W8 (@gU _ _ _ _ _ _ hu (Xc K (pv 0)) (pv 1) (fun _ _=>rfl)) (W8 (pv 2) ai))) (Xz))) (Xh (@la _ _ _ _ _ _ _ _ _ hu (Xc K (pv 0)) (pv 1) (pv 2) (by exact rfl))))),?_⟩;obtain⟨dx,g,dk,km,S1,D⟩:=id G;refine⟨_,rfl,_,rfl,x,ax,dx,_,_,rfl,D.ob,Hc.cl,Hc.marks,kC tr W g dk,dk,_,rfl, .t (k:=aZ c) D.hk hc,_,rfl,?_⟩;have mv:=D.mv c;cases e:s1.2 c with
  |none=>
   rw[e]at mv;have mv:bj km (aZ c)=none:=mv;rw[mv];refine ig ?_;have hl:=D.len;refine⟨_,rfl,_,rfl,x,ax,dx,_,_,rfl,D.ob,Hc.cl,Hc.marks,kC tr W g dk,_,rfl,dk,_,rfl, .t (k:=aZ c) D.hk hc (a_ Xs),?_⟩;obtain⟨u,D'⟩:=D.put (c:=c) hp;refine q _ S u ⟨dx,g,dk,putK km (aZ c) (.ref tp),S1,?_⟩;unfold wU;rw[e];exact D'
  |some r0=>
   rw[e]at mv;obtain⟨t0,v0,Vr⟩:=mv;rw[v0];refine ko ?_;obtain⟨dg,dl,dm,kl,E6,ld,mm,og,_⟩:=id D.gr;refine⟨_,rfl,x,ax,dx,_,_,rfl,D.ob,Hc.cl,Hc.groups,hV tr W g dk,g,dg,_,rfl,og,Z9 dl dm,_,rfl,x,ax,dx,_,_,rfl,D.ob,Hc.cl,Hc.marks,kC tr W g dk,_,rfl,dk,_,rfl,by have:=jh.t (k:=aZ c) D.hk hc;rw[v0]at this;exact this,_,rfl,g,t0,tp,r0,r,S1,s1.1,B,rfl,D.gr,Vr,hp,h0 r0 e,Jd,hB,fun H' u G'=>?_⟩;obtain⟨S',S2,u2,D2⟩:=D.Nq u G';refine q _ S' u2 ⟨dx,g,dk,km,S2,?_⟩;unfold wU;rw[e];exact⟨D2.ob,D2.gr,D2.hk,D2.mv,by have:=D2.len;omega,D2.sS,D2.XH,D2.nx,D2.ng,D2.nt⟩
variable(bR:dP P w K mg base true 1 aF "take_in" ["self","pair"] (uS aF))
variable(bS:dP P w K mg base true 2 ax "mark" ["self","crossing","pair"] (rf ax aF))
theorem eG:aJ ["self","crossing","pair","later","before"] ["self","crossing","pair"] (aq cY):=⟨rfl,rfl,rfl,by decide+kernel,rfl,by decide+kernel,by decide+kernel⟩
include T a7 aW Hc cC bR bS in
theorem kK{f:Addr}{fd:FuncData}(F:gM K "go_over" "Gathering.go_over" cY f fd):aY P w K mg base (c8 P w) true 3 f fd ["self","crossing","pair"] (rg ax aF az):=by
 refine F.gL eG Xu (fun bY A outer s H vs Q E hr h hX=>?_)
 ·obtain⟨x,tc,tp,tr,dt,e,b,es,bs,f,o,p,n,m,W,i,j,r,S,s1,B,M,H0,rfl,_⟩:=h;rfl
 ·obtain⟨x,tc,tp,tr,dt,e,b,es,bs,f1,o,p,n,m,W,i,j,r,S,s1,B,M,H0,rfl,G,TR,BA,hc,hp,hi,hj,TP,OK,hs,hB,hM,q⟩:=h;have hu:=hr.units;have hu:(A.deeper (PyProof.Rows.envOfC "Gathering.go_over" (aq cY) s.heap.objs.size f bY)).units+1<cLine:=Xx;refine⟨_,(Xn (W_ (3) eG.nd (@gU _ _ _ _ _ _ hu (Xc K (pv 0)) (pv 1) (fun _ _=>rfl))) (Xn (Xp (@cx _ _ _ (Xf (Xc K (pv 0)) a7 (hr.mono (Xy)) aT (W8 (pv 1) (W8 (pv 2) ai))) (by intro _;rfl)) (Xn (@a9 _ _ _ _ (Xf (Xc K (pv 0)) bR (hr.mono (Xy)) aT (W8 (pv 2) ai)) (Xz)) (Xh (@a9 _ _ _ _ (Xf (Xc K (pv 0)) cC (hr.mono (Xy)) aT (W8 (pv 2) (W8 (pv 3) ai))) (Xz)))) aS) (Xh (@cy _ _ _ _ _ _ _ _ hX.own Xw (@bB _ K _ _ _ (Xf (Xc K (pv 0)) aW (hr.mono (Xy)) aT (W8 (pv 1) ai)) (Xz)) (W' (4) eG.nd (Or.inl rfl)) (Xh (@a9 _ _ _ _ (Xf (pv 0) bS (hr.mono (Xy)) aT (W8 (pv 4) (W8 (pv 3) ai))) (Xz))) (by intro _;rfl))))),?_⟩;obtain⟨dx,g,dk,km,S1,D⟩:=id G;obtain⟨tl,vl,wR⟩:∃tl,bj km (aZ (aL (i+1,j+1)))=some (.ref tl)∧H tl=some (.tup (ke r)):=by have:=D.mv (aL (i+1,j+1));rw[hs]at this;exact this
  obtain⟨JW,i2,j2,e2,OV⟩:=OK.mr _ _ hs;obtain⟨rfl,rfl⟩:=gX e2;refine⟨fun σ H1=>H1=H∧σ=[some (.ref x),some (.ref tc),some (.ref tp),some (.ref tl),none],⟨_,rfl,x,ax,dx,_,_,rfl,D.ob,Hc.cl,Hc.marks,kC tr W g dk,_,rfl,dk,_,rfl,by have:=jh.t (k:=aZ (aL (i+1,j+1))) D.hk hc;rw[vl]at this;exact this,rfl,rfl⟩,?_⟩;rintro σ H1 ⟨rfl,rfl⟩;have T1:=TR.keep BA.same;refine⟨fun σ H2=>σ=[some (.ref x),some (.ref tc),some (.ref tp),some (.ref tl),none]∧∃S',ny S H1 S' H2∧gH H2 ax aF x tr W S' (Gq f1 o p i j s1 r) (B+1) M,?_,?_⟩
  ·refine⟨_,rfl,x,ax,dx,_,_,rfl,D.ob,Hc.cl,Hc.q_,lz tr W g dk,tr,dt,_,rfl,T1.ob,Gk o p e b,_,rfl,_,rfl,tr,dt,e,b,es,bs,f1,o,p,n,m,tc,tp,i+1,j+1,i,j,rfl,T1,hc,hp,Xx,Xx,hi,hj,_,rfl,?_⟩;unfold Gq;refine bu (fun hh=>?_) (fun hh=>?_)
   ·have hh:=of_decide_eq_true hh;rw[Xo hh];refine⟨fun σ H2=>σ=[some (.ref x),some (.ref tc),some (.ref tp),some (.ref tl),none]∧∃S',ny S H1 S' H2∧gH H2 ax aF x tr W S' (Gp s1.1 (aL (i,j)),s1.2) (B+1) M,?_,?_⟩
    ·obtain⟨dg,dl,dm,kl,E6,ld,mm,og,_⟩:=id D.gr;refine⟨_,rfl,x,ax,dx,_,_,rfl,D.ob,Hc.cl,Hc.groups,hV tr W g dk,g,dg,_,rfl,og,Di dl dm,_,rfl,g,tp,aL (i,j),S1,s1.1,B,rfl,D.gr,hp,Xx,fun H' Ji u G'=>?_⟩;obtain⟨S',S2,u2,D2⟩:=D.Nq u G';exact⟨rfl,S',u2,dx,g,dk,km,S2,D2⟩
    rintro σ H2 ⟨rfl,S',u2,G2⟩;obtain⟨NN,g2,NO,E6,S2,D2⟩:=id G2;have T:=u2.cw G.nt;obtain⟨dg,dl,dm,kl,WL,ld,mm,og,_⟩:=id D2.gr;refine⟨_,rfl,x,ax,NN,_,_,rfl,D2.ob,Hc.cl,Hc.groups,hV tr W g2 NO,g2,dg,_,rfl,og,Z9 dl dm,_,rfl,_,rfl,g2,tp,tl,aL (i,j),r,S2,_,B+1,rfl,D2.gr,T _ _ hp,T _ _ wR, .inr ⟨rfl,rfl⟩, .inl JW,Xx,fun H' u G'=>?_⟩;obtain⟨Nk,S3,u3,D3⟩:=D2.Nq u G';exact⟨rfl,Nk,u2.trans u3,NN,g2,NO,E6,S3,D3⟩
   ·have hh:¬cW f1 o p i j=Bq f1 o p (i+1) (j+1):=fun z=>hh (decide_eq_true z)
    rw[Xk hh];exact⟨rfl,S, .same (.refl _),G.cast rfl (Xx) (Nat.le_refl _)⟩
  rintro σ H2 ⟨rfl,S2,u2,G2⟩;obtain⟨Vs,R9,_⟩:=Dr TP OK JW OV;have XG:=BA.ups u2;have T2:=TR.keep XG.same;have TT:=u2.cw G.nt;obtain⟨NN,g2,NO,E6,S3,D2⟩:=id G2;refine⟨_,rfl,x,ax,NN,_,_,rfl,D2.ob,Hc.cl,Hc.q_,lz tr W g2 NO,tr,dt,_,rfl,T2.ob,Y_ o p e b,_,rfl,tr,dt,e,b,es,bs,f1,o,p,n,m,tc,i,j,rfl,T2,TT _ _ hc,hi,hj,fun H3 rr us s3 qd va P3=>?_⟩;refine⟨rr,rfl,⟨_, .of va⟩,?_⟩;have hlen:(bg f1 o p i j).length≤2:=by
   unfold bg;rw[List.length_append];split<;>split<;>simp
  have Vt:=pT TP OV;refine cz (xs:=us) (fun k σ H4=>(∃w,σ=[some (.ref x),some (.ref tc),some (.ref tp),some (.ref tl),w])∧∃S4,ny S H1 S4 H4∧gH H4 ax aF x tr W S4 (((bg f1 o p i j).take k).foldl (fun s c=>wU s c r) (Gq f1 o p i j s1 r)) (B+1) (M+k)∧H4 rr=some (.lst us)∧f' H4 us (bg f1 o p i j)∧¬S4 rr∧H4 tl=some (.tup (ke r))) ?_ ?_ ?_ ?_
  ·have G3:=G2.same s3;refine⟨⟨_,rfl⟩,S2,u2.trans (.same s3),G3.cast Xr (Nat.le_refl _) (Nat.le_refl _),va,P3,G2.out qd,s3 _ _ (TT _ _ wR)⟩
  ·rintro k σ H4 _ ⟨_,S4,_,_,h4,_⟩;exact .of h4
  ·rintro k v σ H4 hv ⟨⟨w,rfl⟩,S4,u4,G4,h4,P4,n4,t4⟩;have hk:k<(bg f1 o p i j).length:=by rw[←P4.1];exact(Xd hv).1
   have ek:(bg f1 o p i j)[k]?=some (bg f1 o p i j)[k]:=by simp[hk]
   have ip:(bg f1 o p i j)[k]∈bg f1 o p i j:=List.getElem_mem hk;generalize (bg f1 o p i j)[k]=c at ek ip;obtain⟨t,k1,k2⟩:=P4.2 k c ek;rw[hv]at k1;cases k1;obtain⟨Vu,Vv,_⟩:=qZ TP ((bg f1 o p i j).take k) _ Vs (R9.e _ _ JW) (fun c hc=>Vt c (List.mem_of_mem_take hc));obtain⟨Vw,g4,Vx,WM,S5,D4⟩:=id G4;refine⟨_,rfl,x,Vw,_,rfl,D4.ob,Yi tr W g4 Vx,_,rfl,_,rfl,x,t,tl,tr,W,c,r,S4,_,B+1,M+k,rfl,G4,k2,t4,Vv.e _ _ (R9.e _ _ JW),fun r0 h=>(Vu.mr _ _ h).1,Xx,Xx,fun H5 S6 u5 G5=>?_⟩;have T5:=u5.cw G4.nt;refine⟨⟨_,rfl⟩,S6,u4.trans u5,G5.cast ?_ (Nat.le_refl _) (Xx),u5.keep rr _ n4 h4,P4.cw T5,u5.out n4 h4,T5 _ _ t4⟩;rw[List.take_succ,ek];simp
  ·rintro σ H4 ⟨⟨w,rfl⟩,S4,u4,G4,h4,P4,n4,t4⟩;refine q _ S4 u4 (G4.cast ?_ (Nat.le_refl _) (by have:=P4.1;omega));rw[P4.1,List.take_length];rfl
variable(gZ:dP P w K mg base true 1 aF "has" ["self","pair"] (YE aF))
variable(cZ:dP P w K mg base true 3 ax "go_over" ["self","crossing","pair"] (rg ax aF az))
theorem e_:aJ ["self","i","j","pair","behind"] ["self","i","j"] (aq dY):=⟨rfl,rfl,rfl,by decide+kernel,rfl,by decide+kernel,by decide+kernel⟩
include T Rc bQ Hc bR bS gZ cZ in
theorem mF{f:Addr}{fd:FuncData}(F:gM K "visit" "Gathering.visit" dY f fd):aY P w K mg base (c8 P w) true 4 f fd ["self","i","j"] (o6 ax aF az):=by
 refine F.gL e_ Xu (fun bY A outer s H vs Q E hr h hX=>?_)
 ·obtain⟨x,tr,dt,e,b,es,bs,f,o,p,n,m,W,i,j,S,s1,B,M,H0,rfl,_⟩:=h;rfl
 ·obtain⟨x,tr,dt,e,b,es,bs,f1,o,p,n,m,W,i,j,S,s1,B,M,H0,rfl,G,TR,BA,hi,hj,hn,hm,TP,OK,hB,hM,q⟩:=h;have hu:=hr.units;have hu:(A.deeper (PyProof.Rows.envOfC "Gathering.visit" (aq dY) s.heap.objs.size f bY)).units+1<cLine:=Xx;refine⟨_,(Xn (W_ (3) e_.nd (@fv _ _ _ _ _ (W8 (pv 1) (W8 (pv 2) ai)))) (Xn (W_ (4) e_.nd (@fv _ _ _ _ _ (W8 (Xe bM (pv 1) aj) (W8 (Xe bM (pv 2) aj) ai)))) (Xn (Xp (@aV _ _ _ _ _ _ _ _ iH (Xa (ar K) (Xa (ar K) (Xc K (Xc K (pv 0))) (pv 1)) (pv 2)) (Xc K (pv 0)) (aX _)) (Xh (@a9 _ _ _ _ (Xf (Xc K (pv 0)) bR (hr.mono (Xy)) aT (W8 (pv 3) ai)) (Xz))) aS) (Xn (Xp (Xm (@qJ _ _ _ _ _ hu (pv 4) (Xc K (pv 0)))) (Xh (@a9 _ _ _ _ (Xf (pv 0) cZ (hr.mono (Xy)) aT (W8 (pv 4) (W8 (pv 3) ai))) (Xz))) aS) (Xh (Xp (@PW.pt _ _ _ (@pw_and _ _ _ _ _ _ _ (@cx _ _ _ (Xf (Xc K (pv 0)) gZ (hr.mono (Xy)) aT (W8 (pv 3) ai)) (by intro _;rfl)) (@pw_and1 _ _ _ _ (@cx _ _ _ (Xf (Xc K (pv 0)) bQ (hr.mono (Xy)) aT (W8 (pv 3) ai)) (by intro _;rfl))))) (Xh (@a9 _ _ _ _ (Xf (pv 0) bS (hr.mono (Xy)) aT (W8 (pv 3) (W8 (pv 3) ai))) (Xz))) aS)))))),?_⟩;refine⟨fun σ H1=>∃t,σ=[some (.ref x),some (.int i),some (.int j),some (.ref t),none]∧au H H1∧H1 t=some (.tup (ke (aL (i,j)))),⟨_,rfl,_,rfl,aD Xr,fun t ht=>⟨t,rfl,au.upd ht,ae⟩⟩,?_⟩;rintro σ H1 ⟨t,rfl,s2,ht⟩;refine⟨fun σ H2=>∃u,σ=[some (.ref x),some (.int i),some (.int j),some (.ref t),some (.ref u)]∧au H1 H2∧H2 u=some (.tup (ke (aL (i+1,j+1)))),⟨_,rfl,_,_,rfl,rfl,_,rfl,_,_,rfl,rfl,aD Xr,fun u hu=>⟨u,rfl,au.upd hu,ae⟩⟩,?_⟩;rintro σ H2 ⟨u,rfl,s3,Nj⟩;have vN:=s3 _ _ ht;have J5:=s2.trans s3;have G2:=G.same J5;have XG:=BA.more J5;have T2:=TR.keep XG.same;obtain⟨rb,g1,g2,g3⟩:=T2.te.at hi;refine⟨fun σ H3=>σ=[some (.ref x),some (.int i),some (.int j),some (.ref t),some (.ref u)]∧∃S',ny S H2 S' H3∧gH H3 ax aF x tr W S' (E4 f1 o p W i j s1) (B+1) M,?_,?_⟩
  ·obtain⟨dx,g,dk,km,S1,D⟩:=id G2;refine⟨_,rfl,x,ax,dx,_,_,rfl,D.ob,Hc.cl,Hc.q_,lz tr W g dk,tr,az,dt,_,_,rfl,T2.ob,Rc.cl,Rc.jH,gF o p e b,_,rfl,e,_,_,_,rfl,rfl, .of T2.he,av g2,_,rfl,rb,_,_,_,rfl,rfl, .of g3,av (cP hj),_,rfl,x,ax,dx,_,_,rfl,D.ob,Hc.cl,Hc.worth,Dv tr W g dk,?_⟩;have GB:decide (bD (cW f1 o p i j)=V.int W)=decide (cW f1 o p i j=some W):=by cases cW f1 o p i j<;>simp[bD]
   refine⟨by cases cW f1 o p i j<;>rfl,_,rfl,?_⟩;rw[GB];unfold E4;refine bu (fun hh=>?_) (fun hh=>?_)
   ·have hh:=of_decide_eq_true hh;rw[Xo hh];obtain⟨dg,dl,dm,kl,E6,ld,mm,og,_⟩:=id D.gr;refine⟨_,rfl,x,ax,dx,_,_,rfl,D.ob,Hc.cl,Hc.groups,hV tr W g dk,g,dg,_,rfl,og,Di dl dm,_,rfl,g,t,aL (i,j),S1,s1.1,B,rfl,D.gr,vN,Xx,fun H' Ji u G'=>?_⟩;obtain⟨S',S2,u2,D2⟩:=D.Nq u G';exact⟨rfl,S',u2,dx,g,dk,km,S2,D2⟩
   ·have hh:¬cW f1 o p i j=some W:=fun z=>hh (decide_eq_true z)
    rw[Xk hh];exact⟨rfl,S, .same (.refl _),G2.cast rfl (Xx) (Nat.le_refl _)⟩
  rintro σ H3 ⟨rfl,S3,u3,G3⟩;have NP:=u3.cw G2.nt;have Fo:=XG.ups u3;obtain⟨Vy,GW1,_⟩:=Ds OK i j;refine⟨fun σ H4=>σ=[some (.ref x),some (.int i),some (.int j),some (.ref t),some (.ref u)]∧∃S',ny S3 H3 S' H4∧gH H4 ax aF x tr W S' (Bu f1 o p W i j s1) (B+2) (M+2),?_,?_⟩
  ·obtain⟨dx,g,dk,km,S1,D⟩:=id G3;refine⟨_,rfl,_,rfl,x,ax,dx,_,_,rfl,D.ob,Hc.cl,Hc.marks,kC tr W g dk,dk,_,rfl, .t (k:=aZ (aL (i+1,j+1))) D.hk (NP _ _ Nj),_,rfl,?_⟩;have mv:=D.mv (aL (i+1,j+1));have ee:(E4 f1 o p W i j s1).2=s1.2:=rfl;rw[ee]at mv;unfold Bu;cases e9:s1.2 (aL (i+1,j+1))with
   |none=>
    rw[e9]at mv;have mv:bj km (aZ (aL (i+1,j+1)))=none:=mv;rw[mv];refine ig ?_;exact⟨rfl,S3, .same (.refl _),G3.cast rfl (Xx) (Xx)⟩
   |some r=>
    rw[e9]at mv;obtain⟨tl,vl,wR⟩:=mv;rw[vl];refine ko ?_;exact⟨_,rfl,x,dx,_,rfl,D.ob,E5 tr W g dk,_,rfl,_,rfl,x,u,t,tr,dt,e,b,es,bs,f1,o,p,n,m,W,i,j,r,S3,_,B+1,M,H0,rfl,G3,TR,Fo,NP _ _ Nj,NP _ _ vN,hi,hj,TP,Vy,e9,Xx,Xx,fun H' S' u G'=>⟨rfl,S',u,G'⟩⟩
  rintro σ H4 ⟨rfl,S4,u4,G4⟩;have Vz:=u4.cw G3.nt;have VA:=Fo.ups u4;have T4:=TR.keep VA.same;have NQ:=Vz _ _ (NP _ _ vN);obtain⟨VB,GW2,_⟩:=Dt TP OK i j;have uu:ny S H S4 H4:=(ny.same J5).trans (u3.trans u4);obtain⟨dx,g,dk,km,S1,D⟩:=id G4;obtain⟨dg,dl,dm,kl,E6,ld,mm,og,_⟩:=id D.gr;refine⟨_,rfl,x,ax,dx,_,_,rfl,D.ob,Hc.cl,Hc.groups,hV tr W g dk,g,dg,_,rfl,og,LQ dl dm,_,rfl,g,t,aL (i,j),S1,_,B+2,rfl,D.gr,NQ,fun b1 mR=>?_⟩;refine⟨_,rfl,?_⟩;refine bu (fun hh=>?_) (fun hh=>?_)
  ·refine⟨_,rfl,x,ax,dx,_,_,rfl,D.ob,Hc.cl,Hc.q_,lz tr W g dk,tr,dt,_,rfl,T4.ob,Dg o p e b,_,rfl,tr,dt,e,b,es,bs,f1,o,p,n,m,t,i,j,rfl,T4,NQ,Xx,Xx,_,rfl,?_⟩;refine bu (fun h2=>?_) (fun h2=>?_)
   ·have m4:=mR.mp hh;refine⟨_,rfl,x,dx,_,rfl,D.ob,Yi tr W g dk,_,rfl,_,rfl,x,t,t,tr,W,aL (i,j),aL (i,j),S4,_,B+2,M+2,rfl,G4,NQ,NQ,m4,fun r0 h=>(VB.mr _ _ h).1,Xx,Xx,fun H5 S5 u5 G5=>?_⟩;refine q _ S5 (uu.trans u5) ?_;unfold X4;rw[Xo ⟨m4,h2⟩];exact G5
   ·refine q _ S4 uu (G4.cast ?_ Xs (Xx));unfold X4;rw[Xk (fun z=>h2 z.2)]
  ·refine ig ?_;refine q _ S4 uu (G4.cast ?_ Xs (Xx));unfold X4;rw[Xk (fun z=>hh (mR.mpr z.1))]
variable(g7:lS P w K mg base true 3 "Gathering" ax ["self","trails","worth"] [] (oZ ax aF))
variable(d6:dP P w K mg base true 4 ax "visit" ["self","i","j"] (o6 ax aF az))
variable(gy:dP P w K mg base true 1 aF "told" ["self"] (uT aF))
theorem fJ:aJ ["trails","worth","gathering","i","j"] ["trails","worth"] (aq jb):=⟨rfl,rfl,rfl,by decide+kernel,rfl,by decide+kernel,by decide+kernel⟩
include T Rc Hc g7 d6 gy in
theorem rE{f:Addr}{fd:FuncData}(F:jY K "best_groups" "best_groups" jb f fd):aY P w K mg base (c8 P w) true 5 f fd ["trails","worth"] (YV az):=by
 refine F.gL fJ Xu (fun bY A outer s H vs Q E hr h hX=>?_)
 ·obtain⟨tr,dt,e,b,es,bs,f,o,p,n,m,W,rfl,_⟩:=h;rfl
 ·obtain⟨tr,dt,e,b,es,bs,f1,o,p,n,m,W,rfl,TR,IT,R_,hn,hm,TP,q⟩:=h;refine⟨_,(Xn (W_ (2) fJ.nd (@qu _ _ _ _ _ _ _ _ _ _ _ _ _ _ g7 (hr.mono (Xy)) hX.pass (W8 (pv 0) (W8 (pv 1) ai)) (Xz) (Xy) (Xz) (Xz))) (Xn (@cy _ _ _ _ _ _ _ _ hX.own Xw (@tU _ _ _ _ _ _ _ _ (by exact rfl) T.gq (W8 (Xe fu (Xb (aK K) (by exact rfl) T.dI PyProof.Rows.Boot.«len» (W8 (Xc K (pv 0)) ai)) aj) (W8 (@pL _ _ _ _ _ _ ki aj) (W8 (@pL _ _ _ _ _ _ ki aj) ai))) (Xz) (Xz)) (W' (3) fJ.nd (Or.inl rfl)) (Xh (@cy _ _ _ _ _ _ _ _ hX.own Xw (@tU _ _ _ _ _ _ _ _ (by exact rfl) T.gq (W8 (Xe fu (Xb (aK K) (by exact rfl) T.dI PyProof.Rows.Boot.«len» (W8 (Xa (ar K) (Xc K (pv 0)) (pv 3)) ai)) aj) (W8 (@pL _ _ _ _ _ _ ki aj) (W8 (@pL _ _ _ _ _ _ ki aj) ai))) (Xz) (Xz)) (W' (4) fJ.nd (Or.inl rfl)) (Xh (@a9 _ _ _ _ (Xf (pv 2) d6 (hr.mono (Xy)) aT (W8 (pv 3) (W8 (pv 4) ai))) (Xz))) (by intro _;rfl))) (by intro _;rfl)) (Xh (@aN _ _ _ _ (@Ay _ _ _ _ _ _ _ _ _ _ _ _ _ (Xc K (pv 2)) gy (hr.mono (Xy)) aT (Xz)))))),?_⟩;refine⟨fun σ H1=>∃gx S,σ=[some (.ref tr),some (.int W),some (.ref gx),none,none]∧Base H H1 S∧gH H1 ax aF gx tr W S (fun _ _=>False,fun _=>none) 0 0,?_,?_⟩
  ·refine⟨_,rfl,_,rfl,fun y dy hy Jr fj=>⟨y,dy,tr,W,rfl,ae,fun H' S sb fr G=>⟨rfl,y,S,rfl,⟨SameBut.YU hy Jr sb,fun a ha=>?_⟩,G⟩⟩⟩;have:=fr a ha;cases e9:H a with
   |none=>rfl
   |some o9=>rw[af (aB e9 hy),af (aB e9 Jr),e9]at this;cases this
  rintro σ H1 ⟨gx,S,rfl,BA,G⟩;have Fj:es.length=n:=TR.te.1;have V0:=Vd.start f1 o p W n m;refine⟨fun σ H2=>(∃u v,σ=[some (.ref tr),some (.int W),some (.ref gx),u,v])∧∃S s B M,Base H H2 S∧gH H2 ax aF gx tr W S s B M∧Vd f1 o p W (Vb n m 0 0) s∧B≤6000,?_,?_⟩
  ·have T1:=TR.keep BA.same;refine⟨_,rfl,tr,az,dt,_,_,rfl,T1.ob,Rc.cl,Rc.jH,gF o p e b,e,_,rfl, .inl (.of T1.he),_,_,rfl,rfl,_,rfl,_,rfl,_,_,rfl,⟨by rw[List.length_map,Fj];lia,by rw[List.length_map,Fj];lia,Xy,Xy⟩,?_⟩;have en:((((es.map V.ref).length:Nat):Int)-1- -1).toNat=n:=by rw[List.length_map,Fj];lia
   rw[en];refine wM (fun k σ H2=>(∃u v,σ=[some (.ref tr),some (.int W),some (.ref gx),u,v])∧∃S s B M,Base H H2 S∧gH H2 ax aF gx tr W S s B M∧Vd f1 o p W (Vb n m (n-k) 0) s∧B≤2*(k*m)∧M≤3*(k*m)) ⟨⟨_,_,rfl⟩,S,_,0,0,BA,G,V0,by lia,by lia⟩ ?_ ?_
   ·rintro k σ H2 hk ⟨⟨u,v,rfl⟩,S2,s2,B,M,XG,G2,V2,hB,hM⟩;have ei:(((es.map V.ref).length:Nat):Int)-1-(k:Int)=((n-1-k:Nat):Int):=by rw[List.length_map,Fj];lia
    rw[ei];have T2:=TR.keep XG.same;obtain⟨rb,g1,g2,g3⟩:=T2.te.at (show n-1-k<n by lia);have V2:Vd f1 o p W (Vb n m (n-1-k) m) s2:=Vd.turn (by rw[show n-1-k+1=n-k by lia];exact V2);have WN:(k+1)*m≤n*m:=Nat.mul_le_mul_right m Xv;have WO:(k+1)*m=k*m+m:=Nat.succ_mul k m;have lm:∀g:Nat→Option Int,(cN m g).length=m:=fun g=>by simp[cN]
    refine⟨_,rfl,tr,az,dt,_,_,rfl,T2.ob,Rc.cl,Rc.jH,gF o p e b,_,rfl,e,_,_,_,rfl,rfl, .of T2.he,av g2,rb,_,rfl, .inl (.of g3),_,_,rfl,rfl,_,rfl,_,rfl,_,_,rfl,⟨by rw[lm];lia,by rw[lm];lia,Xy,Xy⟩,?_⟩;have VC:((((cN m (cW f1 o p (n-1-k))).length:Nat):Int)-1- -1).toNat=m:=by rw[lm];lia
    rw[VC];refine wM (fun l σ H3=>(∃v,σ=[some (.ref tr),some (.int W),some (.ref gx),some (.int ((n-1-k:Nat):Int)),v])∧∃S s B M,Base H H3 S∧gH H3 ax aF gx tr W S s B M∧Vd f1 o p W (Vb n m (n-1-k) (m-l)) s∧B≤2*(k*m+l)∧M≤3*(k*m+l)) ⟨⟨_,rfl⟩,S2,s2,B,M,XG,G2,V2,hB,hM⟩ ?_ ?_
    ·rintro l σ H3 hl ⟨⟨v3,rfl⟩,S3,s3,B3,M3,Fo,G3,V3,VD,VE⟩;have ej:(((cN m (cW f1 o p (n-1-k))).length:Nat):Int)-1-(l:Int)=((m-1-l:Nat):Int):=by rw[lm];lia
     rw[ej];obtain⟨dx,g,dk,km,S1,D⟩:=id G3;have V3:Vd f1 o p W (Vb n m (n-1-k) (m-1-l+1)) s3:=by rw[show m-1-l+1=m-l by lia];exact V3
     refine⟨_,rfl,gx,dx,_,rfl,D.ob,Dx tr W g dk,_,rfl,_,rfl,gx,tr,dt,e,b,es,bs,f1,o,p,n,m,W,n-1-k,m-1-l,S3,s3,B3,M3,H,rfl,G3,TR,Fo,by lia,by lia,hn,hm,TP,V3.ok,by lia,by lia,fun H4 S4 u4 G4=>?_⟩;refine⟨⟨_,rfl⟩,S4,_,_,_,Fo.ups u4,G4,?_,by lia,by lia⟩;have:=V3.next TP (show n-1-k<n by lia) (show m-1-l<m by lia);rw[show m-(l+1)=m-1-l by lia];exact this
    ·rintro σ H3 ⟨⟨v3,rfl⟩,S3,s3,B3,M3,Fo,G3,V3,VD,VE⟩;refine⟨⟨_,_,rfl⟩,S3,s3,B3,M3,Fo,G3,?_,by lia,by lia⟩;rw[show n-(k+1)=n-1-k by lia,show(0:Nat)=m-m by lia];exact V3
   ·rintro σ H2 ⟨⟨u,v,rfl⟩,S2,s2,B,M,XG,G2,V2,hB,hM⟩;rw[Nat.sub_self]at V2;exact⟨⟨_,_,rfl⟩,S2,s2,B,M,XG,G2,V2,by lia⟩
  rintro σ H2 ⟨⟨u,v,rfl⟩,S2,s2,B,M,XG,G2,V2,hB⟩;obtain⟨dx,g,dk,km,S1,D⟩:=id G2;obtain⟨dg,dl,dm,kl,E6,ld,mm,og,_⟩:=id D.gr;have HG:=fun a b=>V2.PR TP IT a b
  refine⟨_,rfl,gx,ax,dx,_,_,rfl,D.ob,Hc.cl,Hc.groups,hV tr W g dk,g,dg,_,rfl,og,Ja dl dm,g,S1,_,B,rfl,D.gr,by lia,fun H3 r us gs u3 qd va W3 JH TD=>?_⟩;have Fo:Base H H2 S1:=⟨XG.same,fun a h=>XG.free a ((D.sS a).mpr (.inl h))⟩
  exact q _ r us gs (Fo.ups u3).same (XG.same.free qd) va W3 (fun k a h=>XG.same.free (JH k a h)) (TD.iff HG)
theorem mG:aJ ["taken","shut","pair"] ["taken"] (aq lD):=⟨rfl,rfl,rfl,by decide+kernel,rfl,by decide+kernel,by decide+kernel⟩
include T in
theorem ZI{f:Addr}{fd:FuncData}(F:jY K "shut_by" "shut_by" lD f fd):aY P w K mg base (c8 P w) true 1 f fd ["taken"] uK:=by
 refine F.gL mG Xu (fun bY A outer s H vs Q E hr h hX=>?_)
 ·obtain⟨v,shut,rfl,_⟩:=h;rfl
 ·obtain⟨v,shut,rfl,TV,hlen,q⟩:=h;have hu:=hr.units;have hu:(A.deeper (PyProof.Rows.envOfC "shut_by" (aq lD) s.heap.objs.size f bY)).units+1<cLine:=Xx;refine⟨_,(Xj (W_ (1) mG.nd kj) (Xn (Xp (Xm (@qp _ _ _ _ _ (pv 0))) (Xh (@cy _ _ _ _ _ _ _ _ hX.own Xw (@bB _ K _ _ _ (pv 0) (Xz)) (W' (2) mG.nd (Or.inl rfl)) (Xh (@la _ _ _ _ _ _ _ _ _ hu (pv 1) (pv 2) gR Xw)) (by intro _;rfl))) aS) (Xh (@aN _ _ _ _ (pv 1))))),?_⟩;refine fun d hd=>?_
  refine⟨fun σ H1=>(∃u,σ=[some v,some (.ref d),u])∧au H H1∧∃kvs,H1 d=some (.dT kvs)∧Y8 kvs shut,?_,?_⟩
  ·refine⟨_,rfl,_,rfl,?_⟩;rcases TV with⟨rfl,rfl⟩|⟨l,us,rfl,hl,P1⟩
   ·refine bu (fun hh=>absurd hh Xr) (fun _=>?_);exact⟨⟨_,rfl⟩,au.upd hd,[],ae,fun p=>by simp[v5]⟩
   ·refine bu (fun _=>?_) (fun hh=>absurd Xr hh);have Ma:=P1.1;refine⟨_,rfl,l,rfl,⟨_, .of (au.upd hd _ _ hl)⟩,?_⟩;refine cz (xs:=us) (fun i σ H'=>(∃u,σ=[some (.ref l),some (.ref d),u])∧au H H'∧∃kvs,H' d=some (.dT kvs)∧kvs.length≤i∧Y8 kvs (shut.take i)) ?_ ?_ ?_ ?_
    ·exact⟨⟨_,rfl⟩,au.upd hd,[],ae,Nat.le_refl _,fun p=>by simp[v5]⟩
    ·rintro i σ H' _ ⟨_,s1,_⟩;exact .of (s1 _ _ hl)
    ·rintro i x σ H' hx ⟨⟨u,rfl⟩,s1,kvs,hD,hk,hS⟩;have hi:i<shut.length:=by rw[←Ma];exact(Xd hx).1
     obtain⟨t,XC,vN⟩:=P1.O8 hi;rw[hx]at XC;cases XC;refine⟨_,rfl,_,rfl,d,_,rfl, .t (k:=aZ (pr shut i)) hD (s1 _ _ vN) (a_ Xs),⟨_,rfl⟩,s1.eQ hd,_,ae,Nat.le_trans (fh _ _ _) (Xx),fun p=>?_⟩;have e1:shut.take (i+1)=shut.take i++[pr shut i]:=by rw[List.take_succ,F9 hi];rfl
     rw[jf,e1];by_cases hp:p=pr shut i
     ·rw[Xo (by rw[hp])];simp[hp]
     ·rw[Xk (fun z=>hp ?_),hS p]
      ·simp[hp]
      ·simp only[aZ,List.cons.injEq,Sum.inl.injEq,and_true]at z;exact Prod.ext z.1 z.2
    ·rintro σ H' ⟨⟨u,rfl⟩,s1,kvs,hD,_,hS⟩;rw[Ma,List.take_length]at hS;exact⟨⟨_,rfl⟩,s1,kvs,hD,hS⟩
  rintro σ H1 ⟨⟨u,rfl⟩,s1,kvs,hD,hS⟩;exact⟨_,rfl,q H1 d kvs s1 hD hS⟩
variable(lF:bZ P w K mg base true 1 "shut_by" ["taken"] uK)
variable(dG:dP P w K mg base true 1 aQ "pair_worth" ["self","x","y"] (uD aQ))
theorem dh:aJ ["first","second","terms","taken","shut","worths","i","x","row"] ["first","second","terms","taken"] (aq eW):=⟨rfl,rfl,rfl,by decide+kernel,rfl,by decide+kernel,by decide+kernel⟩
include T Tc lF dG in
theorem rF{f:Addr}{fd:FuncData}(F:jY K "open_worths" "open_worths" eW f fd):aY P w K mg base (c8 P w) true 2 f fd ["first","second","terms","taken"] (rl aQ):=by
 refine F.gL dh Xu (fun bY A outer s H vs Q E hr h hX=>?_)
 ·obtain⟨f,g,t,v,c,shut,rfl,_⟩:=h;rfl
 ·obtain⟨f1,g,t,v,c,shut,rfl,hf,hg,TF,TV,ON,Nf,Vo,q⟩:=h;have hu:=hr.units;have hu:(A.deeper (PyProof.Rows.envOfC "open_worths" (aq eW) s.heap.objs.size f bY)).units+1<cLine:=Xx;have lx:(c.xs.map V.str).length=c.xs.length:=List.length_map ..;have ly:(c.ys.map V.str).length=c.ys.length:=List.length_map ..;refine⟨_,(Xn (@aH _ _ (4) _ _ _ _ dh.nd Xw (Or.inr rfl) (W9 lF aT (W8 (pv 3) ai)) (Xz) (by exact .inl rfl)) (Xn (W_ (5) dh.nd (@cA _ _ _ _ ai)) (Xn (@cy _ _ _ _ _ _ _ _ hX.own Xw (@nh _ K _ _ _ _ _ _ _ (by exact rfl) T.iJ (W8 (pv 0) ai) (Xz) (Xz)) (@iI _ K _ _ _ (2) _ (by exact rfl) (@bI _ _ _ _ _ (W' (6) dh.nd (Or.inr rfl)) (@bI _ _ _ _ _ (W' (7) dh.nd (Or.inr rfl)) iG (Xz)) (Xz)) (Xz) (Xz) (Xz)) (Xn (@jC _ _ _ _ _ _ _ _ _ _ _ _ _ _ _ (8) _ _ (by exact rfl) dh.nd Xw (by exact rfl) (show ba ["first","second","terms","taken","shut","worths","i","x","row"] (aq eW) _ ["j","y"] [6,4,2,7] ["i","shut","terms","x"]from⟨rfl,by decide+kernel,by decide+kernel,by decide+kernel,rfl,rfl,by decide+kernel,by decide+kernel,by decide+kernel⟩) (@nh _ K _ _ _ _ _ _ _ (by exact rfl) T.iJ (W8 (pv 1) ai) (Xz) (Xz)) (fun _ _ _ _ _=>(@iI _ K _ _ _ (2) _ (by exact rfl) (@bI _ _ _ _ _ (W' (0) (show(["j","y","i","shut","terms","x"]:List Str).Nodup by decide+kernel) (Or.inl rfl)) (@bI _ _ _ _ _ (W' (1) (show(["j","y","i","shut","terms","x"]:List Str).Nodup by decide+kernel) (Or.inl rfl)) iG (Xz)) (Xz)) (Xz) (Xz) (Xz))) (fun _ _ _ _ _=>fA) (fun _ _ _ _ _=>(@mV _ _ _ _ _ _ _ _ (Xm (@qJ _ _ _ _ _ hu (@fv _ _ _ _ _ (W8 (pv 2) (W8 (pv 0) ai))) (pv 3))) jA (Xf (pv 4) dG (hr.mono (Xy)) aT (W8 (pv 5) (W8 (pv 1) ai))))) (Xz) (by intro _;rfl)) (Xh (@a9 _ _ _ _ (Xg K PySem.F.plainAttrs_list PySem.F.slot_list_append PySem.F.type_list_append cn (pv 5) (W8 (pv 8) ai)) (Xz)))) (by intro _;rfl)) (Xh (@aN _ _ _ _ (pv 5)))))),?_⟩;refine⟨fun σ H1=>∃d kvs,σ=[some (.ref f1),some (.ref g),some (.ref t),some v,some (.ref d),none,none,none,none]∧au H H1∧H1 d=some (.dT kvs)∧Y8 kvs shut,?_,?_⟩
  ·exact⟨_,rfl,v,shut,rfl,TV,ON,fun H1 d kvs s1 hd hS=>⟨d,kvs,rfl,s1,hd,hS⟩⟩
  rintro σ H1 ⟨d,kvs,rfl,s1,L4,hS⟩;refine⟨fun σ H2=>∃e,σ=[some (.ref f1),some (.ref g),some (.ref t),some v,some (.ref d),some (.ref e),none,none,none]∧au H1 H2∧H1 e=none∧H2 e=some (.lst []),?_,?_⟩
  ·exact⟨aD Xr,fun e he=>⟨e,rfl,au.upd he,he,ae⟩⟩
  rintro σ H2 ⟨e,rfl,s2,Gx,JX⟩;refine⟨fun σ H3=>(∃u1 u2 u3,σ=[some (.ref f1),some (.ref g),some (.ref t),some v,some (.ref d),some (.ref e),u1,u2,u3])∧au H1 H3∧∃as:List Addr,H3 e=some (.lst (as.map V.ref))∧il H3 as (j1 c shut) c.xs.length c.ys.length∧(∀a∈as,H1 a=none∧a≠e)∧as.Nodup,?_,?_⟩
  ·refine⟨_,rfl,f1,rfl,⟨_, .of (s2 _ _ (s1 _ _ hf))⟩,?_⟩;refine wo (xs:=c.xs.map V.str) (fun i σ H'=>(∃u1 u2 u3,σ=[some (.ref f1),some (.ref g),some (.ref t),some v,some (.ref d),some (.ref e),u1,u2,u3])∧au H1 H'∧∃as:List Addr,H' e=some (.lst (as.map V.ref))∧il H' as (j1 c shut) i c.ys.length∧(∀a∈as,H1 a=none∧a≠e)∧as.Nodup) ?_ ?_ ?_ ?_
   ·exact⟨⟨_,_,_,rfl⟩,s2,[],JX,⟨rfl,fun i a h=>by simp at h⟩,(fun a h=>by cases h), .nil⟩
   ·rintro i σ H' _ ⟨_,s3,_⟩;exact .of (s3 _ _ (s1 _ _ hf))
   ·rintro i x T' σ H' hx ⟨⟨u1,u2,u3,rfl⟩,s3,as,DV,TA,hn,DT⟩ hT;obtain⟨wx,NR,rfl⟩:=lp hx;have hi:i<c.xs.length:=(Xd NR).1;have s4:au H1 (upd H' T' (.tup [.int i, .str wx])):=s3.trans (au.upd hT);have NU:=au.upd (o:= .tup [.int i, .str wx]) hT _ _ DV;have NV:=TA.same (au.upd (o:= .tup [.int i, .str wx]) hT);refine⟨T',_,rfl, .of ae,rfl,_,_,rfl,_,_,rfl,rfl,?_⟩;generalize upd H' T' (.tup [.int i, .str wx])=H4 at s4 NU NV;clear TA DV s3 hT;refine⟨fun σ H5=>∃r,σ=[some (.ref f1),some (.ref g),some (.ref t),some v,some (.ref d),some (.ref e),some (.int i),some (.str wx),some (.ref r)]∧au H4 H5∧H4 r=none∧H5 r=some (.lst (cN c.ys.length (j1 c shut i))),?_,?_⟩
    ·have R':=s4 _ _ (s1 _ _ hg);refine⟨_,rfl,g,rfl,⟨_, .of R'⟩,fun D hD=>?_⟩;refine tP (xs:=c.ys.map V.str) (fun j ys bo H5=>(∃w1 w2,bo=[w1,w2,some (.int i),some (.ref d),some (.ref t),some (.str wx)])∧ys=cN j (j1 c shut i)∧H5 D=some (.lst ys)∧au H4 H5) ⟨⟨_,_,rfl⟩,rfl,ae,au.upd hD⟩ ?_ ?_ ?_
     ·rintro j ys bo H5 _ ⟨_,_,_,s5⟩;exact .of (s5 _ _ R')
     ·rintro j y T2 ys bo H5 hy ⟨⟨w1,w2,rfl⟩,rfl,NW,s5⟩ L9;obtain⟨wy,Bw,rfl⟩:=lp hy;have hj:j<c.ys.length:=(Xd Bw).1;have s6:au H4 (upd H5 T2 (.tup [.int j, .str wy])):=s5.trans (au.upd L9);have Mn:=au.upd (o:= .tup [.int j, .str wy]) L9 _ _ NW;refine⟨T2,_,rfl, .of ae,rfl,_,_,rfl,_,_,rfl,rfl,?_⟩;generalize upd H5 T2 (.tup [.int j, .str wy])=H6 at s6 Mn;refine ux ?_;refine⟨_,rfl,_,rfl,aD Xr,fun p hp=>?_⟩;have s7:=s6.trans (au.upd (o:= .tup [.int (i:Int), .int (j:Int)]) hp);have sA:=s4.trans s7;have Se:=au.upd (o:= .tup [.int (i:Int), .int (j:Int)]) hp _ _ Mn;have len:(cN j (j1 c shut i)).length<sizeLine:=a_ (by rw[cO];omega);have sn:∀u,u=j1 c shut i j→cN j (j1 c shut i)++[bD u]=cN (j+1) (j1 c shut i):=fun u e=>by rw[oR,e]
      have Qn:c.pw ((i:Int),(j:Int))=du c.same c.fs wx wy:=Case.pw_of (by rw[qQ];exact NR) (by rw[qQ];exact Bw);refine⟨_,rfl,d,_,rfl, .t (k:=aZ ((i:Int),(j:Int))) (sA _ _ L4) ae,_,rfl,?_⟩;rw[hS];refine bu (fun h1=>?_) (fun h1=>?_)
      ·have h1:((i:Int),(j:Int))∈shut:=by simpa using h1
       refine⟨Se,len,⟨_,_,rfl⟩,?_,ae,s7.eQ hD⟩;exact sn none (by simp[j1,Ib,h1])
      ·have h1:((i:Int),(j:Int))∉shut:=by simpa using h1
       obtain⟨n,dx,l,dd,vs,T1,e1,e2,e3,e4⟩:=(TF.keep s1).keep sA;refine⟨_,rfl,t,dx,_,rfl,T1.ob,uB n l dd,_,rfl,_,rfl,t,wx,wy,n,c.fs,dx,l,dd,vs,rfl,T1,fun H8 s8=>?_⟩;refine⟨s8 _ _ Se,len,⟨_,_,rfl⟩,?_,ae,(s7.trans s8).eQ hD⟩;exact sn _ (by simp[j1,Ib,h1,Qn,e1])
     ·rintro ys bo H5 ⟨_,rfl,NW,s5⟩;rw[ly]at NW;exact⟨D,rfl,s5,hD,NW⟩
    rintro σ H5 ⟨r,rfl,s5,qd,Qo⟩;have Sg:r≠e:=Ne.symm (aB NU qd);have hlen:=NV.len;refine⟨_,rfl, .inl ⟨rfl,_, .of (s5 _ _ NU)⟩,_,rfl,e,_,_,rfl,rfl,s5 _ _ NU,a_ (by rw[List.length_map];omega),⟨_,_,_,rfl⟩,(s4.trans s5).eQ Gx,as++[r],by rw[ae];simp,⟨by simp[hlen],fun k a hk=>?_⟩,fun a ha=>?_,List.nodup_append.mpr ⟨DT,XA,fun x hx y hy e9=>?_⟩⟩
    ·by_cases h:k<i
     ·rw[List.getElem?_append_left Xs]at hk;rw[af (hn a (Xi hk)).2];exact s5 _ _ (NV.row k a hk)
     ·rw[List.getElem?_append_right Xs]at hk;have AM:k-as.length=0:=by
       have:=(Xd hk).1;simp at this;omega
      rw[AM]at hk;have:r=a:=by simpa using hk
      subst this;rw[af Sg];have:k=i:=Xx;rw[this];exact Qo
    ·rcases List.mem_append.mp ha with ha|ha
     ·exact hn a ha
     ·have:a=r:=by simpa using ha
      rw[this];exact⟨s4.free qd,Sg⟩
    ·have hy:y=r:=by simpa using hy
     obtain⟨k,hk,ek⟩:=List.mem_iff_getElem.mp hx;have:=NV.row k x (by rw[List.getElem?_eq_getElem hk,ek]);rw[e9,hy,qd]at this;cases this
   ·rintro σ H' ⟨⟨u1,u2,u3,rfl⟩,s3,as,DV,TA,hn,DT⟩;rw[lx]at TA;exact⟨⟨_,_,_,rfl⟩,s3,as,DV,TA,hn,DT⟩
  rintro σ H3 ⟨⟨u1,u2,u3,rfl⟩,s3,as,DV,TA,hn,DT⟩;exact⟨_,rfl,q H3 e as (s1.trans s3) DV (s1.free Gx) TA DT (fun z=>(hn e z).2 rfl) fun a ha=>s1.free (hn a ha).1⟩
variable(lG:lS P w K mg base true 4 "Trails" az ["self","worths","terms"] [] (oX az aQ))
variable(gz:bZ P w K mg base true 5 "best_groups" ["trails","worth"] (YV az))
variable(fK:bZ P w K mg base true 6 "make_finding" ["trails","worth","pairs"] (YG az aA))
theorem jd:aJ ["worths","terms","trails","worth"] ["worths","terms"] (aq fG):=⟨rfl,rfl,rfl,by decide+kernel,rfl,by decide+kernel,by decide+kernel⟩
include T Tc eF Rc lG gz fK in
theorem sG{f:Addr}{fd:FuncData}(F:jY K "make_round" "make_round" fG f fd):aY P w K mg base (c8 P w) true 7 f fd ["worths","terms"] (nB aQ aA):=by
 refine F.gL jd Xu (fun bY A outer s H vs Q E hr h hX=>?_)
 ·obtain⟨w,t,as,c,f,n,m,rfl,_⟩:=h;rfl
 ·obtain⟨w,t,as,c,f1,n,m,rfl,hw,TA,TF,IT,R_,hn,hm,q0,q1⟩:=h;refine⟨_,(Xn (@aH _ _ (2) _ _ _ _ jd.nd Xw (Or.inr rfl) (@qu _ _ _ _ _ _ _ _ _ _ _ _ _ _ lG (hr.mono (Xy)) hX.pass (W8 (pv 0) (W8 (pv 1) ai)) (Xz) (Xy) (Xz) (Xz)) (Xz) (by exact .inl rfl)) (Xn (@aH _ _ (3) _ _ _ _ jd.nd Xw (Or.inr rfl) (W9 eF aT (W8 (@lh _ _ _ _ _ _ _ _ _ _ _ _ _ _ (by exact rfl) (show ba ["worths","terms","trails","worth"] (aq fG) _ ["row"] [] []from⟨rfl,by decide+kernel,by decide+kernel,by decide+kernel,rfl,rfl,by decide+kernel,by decide+kernel,by decide+kernel⟩) (@bB _ K _ _ _ (Xc K (pv 2)) (Xz)) (fun _ _ _ _ _=>(W' (0) (show(["row"]:List Str).Nodup by decide+kernel) (Or.inl rfl))) (fun _ _ _ _ _=>fA) (fun _ _ _ _ _=>(W9 eF aT (W8 (pv 0) ai))) (by intro _;rfl)) ai)) (Xz) (by exact .inl rfl)) (Xn (Xp (@PW.pt _ _ _ (@pw_or _ _ _ _ _ _ _ (Xm (@oF _ _ _ _ _ (pv 3))) (@pw_or1 _ _ _ _ (@aV _ _ _ _ _ _ _ _ qF (pv 3) (Xc K (pv 1)) (aX _))))) (Xh (@aN _ _ _ _ (@cA _ _ _ _ ai))) aS) (Xh (@aN _ _ _ _ (@lh _ _ _ _ _ _ _ _ _ _ _ _ _ _ (by exact rfl) (show ba ["worths","terms","trails","worth"] (aq fG) _ ["pairs"] [2,3] ["trails","worth"]from⟨rfl,by decide+kernel,by decide+kernel,by decide+kernel,rfl,rfl,by decide+kernel,by decide+kernel,by decide+kernel⟩) (@bB _ K _ _ _ (W9 gz aT (W8 (pv 2) (W8 (pv 3) ai))) (Xz)) (fun _ _ _ _ _=>(W' (0) (show(["pairs","trails","worth"]:List Str).Nodup by decide+kernel) (Or.inl rfl))) (fun _ _ _ _ _=>fA) (fun _ _ _ _ _=>(W9 fK aT (W8 (pv 1) (W8 (pv 2) (W8 (pv 0) ai))))) (by intro _;rfl))))))),?_⟩;refine⟨fun σ H1=>∃x dx e b es,σ=[some (.ref w),some (.ref t),some (.ref x),none]∧au H H1∧H1 x=some (.ins az dx (fZ c.out c.into e b))∧H1 e=some (.lst (es.map V.ref))∧il H1 es (cW f1 c.out c.into) n m∧(0<n→∃bs,oW H1 az x dx e b es bs f1 c.out c.into n m),?_,?_⟩
  ·refine⟨_,rfl,_,rfl,fun x dx hx Cv fj=>?_⟩;have s5:au H (upd (upd H dx (.own x)) x (.ins az dx [])):=(au.upd Cv).eQ hx;refine⟨x,dx,w,t,c,as,f1,n,m,rfl,ae,by rw[af fj];exact ae,s5 _ _ hw,TA.same s5,TF.keep s5,hn,hm,fun H6 e b sb Sh Te Tb=>?_⟩;obtain⟨es,he,_,TE,_⟩:=Te;refine⟨rfl,x,dx,e,b,es,rfl,SameBut.YU hx Cv sb,Sh,he,TE,fun h=>?_⟩;obtain⟨bs,hb,_,VF,_⟩:=Tb h;exact⟨bs,Sh,he,TE,hb,VF⟩
  rintro σ H1 ⟨x,dx,e,b,es,rfl,s1,lV,X5,TE,VG⟩;have Fj:es.length=n:=TE.len;refine⟨fun σ H2=>σ=[some (.ref w),some (.ref t),some (.ref x),some (bD (E8 f1 c.out c.into n m))]∧au H1 H2,?_,?_⟩
  ·refine⟨_,rfl,x,az,dx,_,_,rfl,lV,Rc.cl,Rc.jH,gF c.out c.into e b,e,rfl,⟨_, .of X5⟩,fun D hD=>?_⟩;refine jj (xs:=es.map V.ref) (fun k ys bo H'=>(∃u,bo=[u])∧ys=((List.range k).map fun i=>bD (ni ((List.range m).map (cW f1 c.out c.into i))))∧H' D=some (.lst ys)∧au H1 H') ⟨⟨_,rfl⟩,rfl,ae,au.upd hD⟩ ?_ ?_ ?_
   ·rintro k ys bo H' _ ⟨_,_,_,s2⟩;exact .of (s2 _ _ X5)
   ·rintro k v ys bo H' hv ⟨⟨u,rfl⟩,rfl,qc,s2⟩;have hk:k<n:=by rw[←Fj];have:=(Xd hv).1;simpa using this
    obtain⟨rb,g1,g2,g3⟩:=TE.at hk;rw[hv]at g2;cases g2;refine kr ?_;refine⟨_,rfl,rb,(List.range m).map (cW f1 c.out c.into k),rfl,?_,by simpa using hm,fun Nl s3=>?_⟩
    ·rw[s2 _ _ g3,List.map_map];rfl
    ·refine⟨s3 _ _ qc,a_ (by simp;omega),⟨_,rfl⟩,?_,ae,(s2.trans s3).eQ hD⟩;rw[List.range_succ,List.map_append];rfl
   ·rintro ys bo H' ⟨_,rfl,qc,s2⟩;rw[List.length_map,Fj]at qc;refine⟨D,(List.range n).map fun i=>ni ((List.range m).map (cW f1 c.out c.into i)),rfl,by rw[qc,List.map_map];rfl,by simpa using hn,fun Nl s3=>⟨rfl,s2.trans s3⟩⟩
  rintro σ H2 ⟨rfl,s2⟩;have A_:=s1.trans s2;obtain⟨nu,dt,l,d,vs,TM,z1,z2,z3,z4⟩:=TF.keep A_;have MX:=DA IT c.out c.into;refine⟨fun σ H3=>∃W,E8 f1 c.out c.into n m=some W∧c.least≤W∧σ=[some (.ref w),some (.ref t),some (.ref x),some (.int W)]∧H3=H2,?_,?_⟩
  ·refine⟨_,rfl,_,rfl,?_⟩;cases eT:E8 f1 c.out c.into n m with
   |none=>
    rw[eT]at MX;refine ko ?_;refine ko ?_;exact⟨aD Xr,fun r qd=>q0 (fun ps hp=>absurd ⟨ps,hp,rfl⟩ (MX _)) _ r (A_.trans (au.upd qd)) (A_.free qd) ae⟩
   |some W=>
    rw[eT]at MX;refine bu (fun hh=>absurd hh (by simp[bD])) (fun _=>?_);refine⟨_,rfl,_,rfl,t,aQ,dt,_,_,rfl,TM.ob,Tc.cl,Tc.least,EC nu l d,_,_,rfl,rfl,_,rfl,?_⟩;refine bu (fun hh=>?_) (fun hh=>?_)
    ·have hh:W<nu.least:=by simpa using hh
     rw[z4]at hh;exact⟨aD Xr,fun r qd=>q0 (fun ps hp=>by have:=MX.2 _ ⟨ps,hp,rfl⟩;omega) _ r (A_.trans (au.upd qd)) (A_.free qd) ae⟩
    ·have hh:¬W<nu.least:=by simpa using hh
     rw[z4]at hh;exact⟨W,rfl,Xx,rfl,rfl⟩
  rintro σ H2 ⟨W,eT,hle,rfl,rfl⟩;rw[eT]at MX;obtain⟨Si,w0,Sj⟩:=MX.1;have TP:ed f1 c.out c.into W:=fun ps hp=>MX.2 _ ⟨ps,hp,rfl⟩
  have Qb:0<n:=by
   obtain⟨i,j,_,hi,_⟩:=i9 IT w0 (cQ w0.ne);omega
  obtain⟨bs,TR⟩:=VG Qb;have Sk:=TR.keep s2;refine⟨_,rfl,_,rfl,x,dx,e,b,es,bs,f1,c.out,c.into,n,m,W,rfl,Sk,IT,R_,hn,hm,TP,fun H3 r us gs s3 qd va W3 JH TD=>?_⟩;have Fp:∀g∈gs,∀a∈g,∃i j:Nat,a=aL (i,j)∧i<n∧j<m:=fun g hg a ha=>by
   obtain⟨ps,wp,hm⟩:=(TD.mem hg ha).on;exact i9 IT wp.1 hm
  have pN:∀g∈gs,g.length≤n*m:=fun g hg=>by
   have:=len_sub g (uX n m) ((TD.qT g hg).imp fun{a b} h e=>by
    rw[e]at h;unfold iL at h;simp at h) fun a ha=>by
    obtain⟨i,j,rfl,hi,hj⟩:=Fp g hg a ha;exact rk hi hj
   rw[rj]at this;exact this
  have B1:=TD.ue Fp;have Qp:gs≠[]:=fun z=>by
   obtain⟨i,j,h1,_⟩:=i9 IT w0 (cQ w0.ne);obtain⟨g,hg,_⟩:=TD.all _ (fY.way Si ⟨w0,Sj.symm⟩ (cQ w0.ne) (cQ w0.ne));rw[z]at hg;cases hg
  have hW:=W3.1;refine⟨r,rfl,⟨_, .of va⟩,fun D hD=>?_⟩;refine jj (xs:=us) (fun k ys bo H'=>(∃u,bo=[u,some (.ref x),some (.int W)])∧H' D=some (.lst ys)∧au H3 H'∧∃ds,ck (fun b=>H2 b=none∧b≠D) H' aA ys ds∧ds.map Fd.pairs=gs.take k∧∀d∈ds,LZ f1 c.out c.into W d) ⟨⟨_,rfl⟩,ae,au.upd hD,[], .nil,rfl,fun d h=>(by cases h)⟩ ?_ ?_ ?_
  ·rintro k ys bo H' _ ⟨_,_,s4,_⟩;exact .of (s4 _ _ va)
  ·rintro k v ys bo H' hv ⟨⟨u,rfl⟩,GH,s4,ds,F4,Mo,bL⟩;have hk:k<gs.length:=by rw[←hW];exact(Xd hv).1
   have ek:gs[k]?=some gs[k]:=by simp[hk]
   have ip:gs[k]∈gs:=List.getElem_mem hk;generalize gs[k]=g at ek ip;obtain⟨pa,Sl,k1,k2,k3⟩:=W3.2 k g ek;rw[hv]at k1;cases k1;have Qq:=JH k pa hv;have Mp:pa≠D:=fun z=>by rw[z,hD]at k2;cases k2
   obtain⟨gn,Mq⟩:∃gn:List (Nat×Nat),g=gn.map aL:=by
    refine⟨g.map fun a=>(a.1.toNat,a.2.toNat),?_⟩;rw[List.map_map]
    conv=>lhs;rw[←List.map_id g]
    apply List.map_congr_left;intro a ha;obtain⟨i,j,rfl,_⟩:=Fp g ip a ha;simp[aL]
   obtain⟨i0,j0,z5,z6,z7,z8⟩:∃i j:Nat,cW f1 c.out c.into i j=some W∧i<n∧j<m∧aL (i,j)∈g:=by
    obtain⟨a,ha⟩:=List.exists_mem_of_ne_nil _ (TD.ne g ip);obtain⟨i,j,h1,h2,h3,h4⟩:=A0 TP IT (TD.mem ip ha);exact⟨i,j,h1,h2,h3,(TD.cls g ip a ha _).mpr h4⟩
   have Qr:gn.filter (fun q=>decide (cW f1 c.out c.into q.1 q.2=some W))≠[]:=fun z=>by
    rw[Mq]at z8;obtain⟨q9,VH,e9⟩:=List.mem_map.mp z8;obtain⟨VI,VJ⟩:=gX (a:=q9.1) (b:=q9.2) e9;have:q9∈gn.filter (fun q=>decide (cW f1 c.out c.into q.1 q.2=some W)):=List.mem_filter.mpr ⟨VH,by rw[VI,VJ];simpa using z5⟩;rw[z]at this;cases this
   obtain⟨rG,Jq⟩:∃q0,(gn.filter fun q=>decide (cW f1 c.out c.into q.1 q.2=some W))[0]?=some q0:=by
    cases e9:gn.filter (fun q=>decide (cW f1 c.out c.into q.1 q.2=some W))with
    |nil=>exact absurd e9 Qr
    |cons a r=>exact⟨a,rfl⟩
   have Mr:=List.mem_filter.mp (Xi Jq);have Qs:cW f1 c.out c.into rG.1 rG.2=some W:=by simpa using Mr.2
   have VL:=Sk.keep (s3.trans s4);refine kr ?_;refine⟨_,rfl,_,rfl,_,rfl,x,dx,e,b,es,bs,f1,c.out,c.into,n,m,W,pa,Sl,gn,rG,rfl,VL,s4 _ _ k2,by rw[←Mq];exact k3.same s4,fun q hq=>?_,Jq,hn,?_,fun H5 y dy wy rw i7 s5 hy Jr Bw Qt VM VN Qu P5 Qo=>?_⟩
   ·have:aL q∈g:=by rw[Mq];exact List.mem_map.mpr ⟨q,hq,rfl⟩
    obtain⟨i,j,h1,h2,h3⟩:=Fp g ip _ this;obtain⟨h4,h5⟩:=gX (a:=q.1) (b:=q.2) h1;omega
   ·have:=pN g ip;rw[Mq,List.length_map]at this;omega
   ·obtain⟨v1,v2,v3,v4⟩:=E7 f1 c.out c.into rG.1 rG.1 rG.2 W (Nat.le_refl _) Qs;have WQ:=F4.1;have VO:ds.length=k:=by
     have:=congrArg List.length Mo;rw[List.length_map,List.length_take]at this;omega
    have nD:∀{z},H' z=none→z≠D:=fun h z=>by rw[z,GH]at h;cases h
    have Qv:au H2 H':=s3.trans s4;refine⟨s5 _ _ GH,a_ Xs,⟨_,rfl⟩,ae,(s4.trans s5).eQ hD,ds++[⟨W,(dQ f1 c.out c.into rG.1 rG.1 rG.2).map aL,wV (lf f1) c.out c.into ((dQ f1 c.out c.into rG.1 rG.1 rG.2).map aL),g⟩],?_,?_,fun d hd=>?_⟩
    ·refine ck.append (F4.keep (fun b o hb e=>by rw[af hb.2];exact s5 _ _ e) (fun a v e=>by rw[af (fun z=>by rw[z,GH]at e;cases e)];exact s5 _ _ e) fun _ h=>h) ⟨rfl,fun k9 d9 e9=>?_⟩;have VP:k9=0:=by
      have:=(Xd e9).1;simp at this;omega
     subst VP;have e9:=(Option.some.inj e9).symm;subst e9;have T5:eV H5 (upd H5 D (.lst (ys++[.ref y]))):=eV.lst (s5 _ _ GH);refine⟨y,dy,wy,rw,pa,i7,Sl,rfl,⟨by rw[af (nD hy)];exact VM,by rw[af (nD Bw)];exact Qu,P5.cw T5,?_,by rw[af Mp];exact s5 _ _ (s4 _ _ k2),((k3.same s4).same s5).cw T5,⟨Qv.free hy,nD hy⟩,⟨Qv.free Bw,nD Bw⟩,⟨Qv.free Qt,nD Qt⟩,⟨Qq,Mp⟩⟩⟩;rw[af (nD Qt),Qo]
     congr 2
     have:=congrArg (List.map bD) v4;rw[List.map_map,List.map_map]at this;exact this
    ·rw[List.map_append,Mo,List.take_succ,ek];rfl
    ·rcases List.mem_append.mp hd with hd|hd
     ·exact bL d hd
     ·have:d=⟨W,(dQ f1 c.out c.into rG.1 rG.1 rG.2).map aL,wV (lf f1) c.out c.into ((dQ f1 c.out c.into rG.1 rG.1 rG.2).map aL),g⟩:=by simpa using hd
      subst this;refine⟨rfl,⟨v1,v3⟩,rfl,fun q hq=>?_⟩;have Ml:aL rG∈g:=by rw[Mq];exact List.mem_map.mpr ⟨_,Mr.1,rfl⟩
      have v2:lstP ((dQ f1 c.out c.into rG.1 rG.1 rG.2).map aL)=aL rG:=v2;exact(TD.cls g ip _ Ml q).mpr (.way _ ⟨v1,v3⟩ (by rw[←v2];exact cQ v1.ne) hq)
  ·rintro ys bo H' ⟨_,GH,s4,ds,F4,Mo,bL⟩;rw[hW,List.take_length]at Mo;have sA:=A_.trans (s3.trans s4);exact q1 W gs ds ⟨TP,⟨Si,w0,Sj.symm⟩,hle,TD,Mo,bL⟩ Qp _ D ys sA ((A_.trans s3).free hD) GH (F4.keep (fun _ _ _ h=>h) (fun _ _ h=>h) fun b hb=>A_.free hb.1)
theorem gA:aJ ["worths","findings","finding","i","j"] ["worths","findings"] (aq jL):=⟨rfl,rfl,rfl,by decide+kernel,rfl,by decide+kernel,by decide+kernel⟩
include T Fc in
theorem sI{f:Addr}{fd:FuncData}(F:jY K "shut_pairs" "shut_pairs" jL f fd):aY P w K mg base (c8 P w) true 1 f fd ["worths","findings"] (rm aA):=by
 refine F.gL gA Xu (fun bY A outer s H vs Q E hr h hX=>?_)
 ·obtain⟨w,md,as,us,ds,f,n,m,rfl,_⟩:=h;rfl
 ·obtain⟨w,md,as,us,ds,f1,n,m,rfl,hw,LJ,nw,TA,Sn,VQ,FL,m4,q⟩:=h;refine⟨_,(Xh (@cy _ _ _ _ _ _ _ _ hX.own Xw (@bB _ K _ _ _ (pv 1) (Xz)) (W' (2) gA.nd (Or.inl rfl)) (Xh (@cy _ _ _ _ _ _ _ _ hX.own Xw (@bB _ K _ _ _ (Xc K (pv 2)) (Xz)) (@iI _ K _ _ _ (2) _ (by exact rfl) (@bI _ _ _ _ _ (W' (3) gA.nd (Or.inl rfl)) (@bI _ _ _ _ _ (W' (4) gA.nd (Or.inl rfl)) iG (Xz)) (Xz)) (Xz) (Xz) (Xz)) (Xh (@BD _ _ _ _ _ _ jA (@BC _ _ _ _ _ _ _ (Xa (ar K) (pv 0) (pv 3)) (pv 4) set_list (by intro _;rfl)) (Xz) (Xz) (Xz))) (by intro _;rfl))) (by intro _;rfl))),?_⟩;have rows:∀a∈as,∃xs,H a=some (.lst xs):=fun a ha=>by
   obtain⟨k,hk,ek⟩:=List.mem_iff_getElem.mp ha;exact⟨_,TA.row k a (by rw[List.getElem?_eq_getElem hk,ek])⟩
  have cw:∀H',(∀b o,b∉as→H b=some o→H' b=some o)→eV H H':=fun H' k t v e=>k t _ (fun z=>by
   obtain⟨xs,h⟩:=rows t z;rw[e]at h;cases h) e
  have hlen:=FL.1;refine⟨_,rfl,md,rfl,⟨_, .of Sn⟩,?_⟩;refine cz (xs:=us) (fun k σ H1=>(∃u1 u2 u3,σ=[some (.ref w),some (.ref md),u1,u2,u3])∧(∀b o,b∉as→H b=some o→H1 b=some o)∧il H1 as (j5 f1 ((ds.take k).map Fd.pairs).flatten) n m) ⟨⟨_,_,_,rfl⟩,fun _ _ _ h=>h,TA⟩ ?_ ?_ ?_
  ·rintro k σ H1 _ ⟨_,k1,_⟩;exact .of (k1 _ _ VQ Sn)
  ·rintro k v σ H1 hv ⟨⟨u1,u2,u3,rfl⟩,k1,T1⟩;have hk:k<ds.length:=by rw[←hlen];exact(Xd hv).1
   have ek:ds[k]?=some ds[k]:=by simp[hk]
   have ip:ds[k]∈ds:=List.getElem_mem hk;generalize ds[k]=d at ek ip;obtain⟨a,dy,wy,jy,pr,mf,i7,e1,F⟩:=FL.2 k d ek;rw[hv]at e1;cases e1;have B4:=F.pp.1;have et:((ds.take (k+1)).map Fd.pairs).flatten=((ds.take k).map Fd.pairs).flatten++d.pairs:=by
    rw[List.take_succ,ek,List.map_append,List.flatten_append];simp
   refine⟨_,rfl,a,aA,dy,_,_,rfl,k1 _ _ F.fa F.ob,Fc.cl,Fc.pairs,nr d.worth wy jy pr,pr,rfl,⟨_, .of (k1 _ _ F.fp F.hp)⟩,?_⟩;refine cz (xs:=i7) (fun l σ H2=>(∃u2 u3,σ=[some (.ref w),some (.ref md),some (.ref a),u2,u3])∧(∀b o,b∉as→H b=some o→H2 b=some o)∧il H2 as (j5 f1 (((ds.take k).map Fd.pairs).flatten++d.pairs.take l)) n m) ⟨⟨_,_,rfl⟩,k1,by simpa using T1⟩ ?_ ?_ ?_
   ·rintro l σ H2 _ ⟨_,k2,_⟩;exact .of (k2 _ _ F.fp F.hp)
   ·rintro l v σ H2 NX ⟨⟨v2,v3,rfl⟩,k2,T2⟩;have hl:l<d.pairs.length:=by rw[←B4];exact(Xd NX).1
    have el:d.pairs[l]?=some d.pairs[l]:=by simp[hl]
    have hq:=m4 d ip d.pairs[l] (List.getElem_mem hl);generalize d.pairs[l]=g at el hq;obtain⟨i,j,rfl,hi,hj⟩:=hq;obtain⟨t,g1,g2⟩:=F.pp.2 l _ el;rw[NX]at g1;cases g1;have kt:=cw H2 k2 _ _ g2;refine⟨t,_,rfl, .of kt,rfl,_,_,rfl,_,_,rfl,rfl,?_⟩;obtain⟨ra,r1,r2,r3⟩:=T2.at hi;have Nz:ra∈as:=Xi r1;refine⟨_,rfl,_,rfl,w,_,_,_,rfl,rfl, .of (k2 _ _ nw hw),av r2,_,rfl,ra,_,_,j,rfl,rfl,r3,ED (by rw[cO];exact hj),⟨_,_,rfl⟩,fun b o hb e=>?_,⟨T2.len,fun x b hb=>?_⟩⟩
    ·rw[af (fun z=>hb (by rw[z];exact Nz))];exact k2 b o hb e
    ·have So:d.pairs.take (l+1)=d.pairs.take l++[aL (i,j)]:=by rw[List.take_succ,el];rfl
     by_cases e:b=ra
     ·have ex:x=i:=by
       obtain⟨h1,e1⟩:=Xd hb;obtain⟨h2,e2⟩:=Xd r1;exact(List.getElem_inj LJ).mp (by rw[e1,e2,e])
      subst ex e;rw[ae];show some (HO.lst ((cN m _).set j (bD none)))=_;rw[CB]
      congr 2
      unfold cN;apply List.map_congr_left;intro y _;unfold j5;rw[So,←List.append_assoc]
      congr 1
      dsimp only;by_cases ey:y=j
      ·subst ey;rw[if_pos rfl,if_pos Xr]
      ·rw[Xk ey];have:¬aL (x,y)=aL (x,j):=fun z=>ey (gX z).2
       simp[this]
     ·rw[af e,T2.row x b hb]
      congr 2
      unfold cN;apply List.map_congr_left;intro y _;unfold j5;rw[So,←List.append_assoc];have:¬aL (x,y)=aL (i,j):=fun z=>by
       have hk:=(gX z).1;subst hk;rw[r1]at hb;exact e (Option.some.inj hb).symm
      simp[this]
   ·rintro σ H2 ⟨⟨v2,v3,rfl⟩,k2,T2⟩;rw[B4,List.take_length]at T2;exact⟨⟨_,_,_,rfl⟩,k2,by rw[et];exact T2⟩
  ·rintro σ H1 ⟨_,k1,T1⟩;rw[hlen,List.take_length]at T1;exact q H1 k1 (cw H1 k1) T1
variable(dJ:BL mg "FINDINGS_MOST" (.int 20))
variable(gB:bZ P w K mg base true 2 "open_worths" ["first","second","terms","taken"] (rl aQ))
variable(fL:bZ P w K mg base true 7 "make_round" ["worths","terms"] (nB aQ aA))
variable(g8:bZ P w K mg base true 1 "shut_pairs" ["worths","findings"] (rm aA))
variable(jS:bZ P w K mg base true 1 "order_of" ["finding"] (qW aA))
variable(ju:Er K mg "TooMany" jn)
theorem iy:aJ ["first","second","terms","worths","findings","made"] ["first","second","terms"] (aq o7):=⟨rfl,rfl,rfl,by decide+kernel,rfl,by decide+kernel,by decide+kernel⟩
include T iw dJ gB fL g8 jS ju in
theorem ZY{f:Addr}{fd:FuncData}(F:jY K "compare" "compare" o7 f fd):aY P w K mg base (c8 P w) true 8 f fd ["first","second","terms"] (uY aQ aA jn):=by
 refine F.gL iy Xu (fun bY A outer s H vs Q E hr h hX=>?_)
 ·obtain⟨a,b,t,c,rfl,_⟩:=h;rfl
 ·obtain⟨a,b,t,c,rfl,ha,hb,TF,hx,hy,q1,q2⟩:=h;refine⟨_,(Xn (W_ (3) iy.nd (W9 gB aT (W8 (pv 0) (W8 (pv 1) (W8 (pv 2) (W8 jA ai)))))) (Xn (W_ (4) iy.nd (@cA _ _ _ _ ai)) (Xn (W_ (5) iy.nd (W9 fL aT (W8 (pv 3) (W8 (pv 2) ai)))) (Xn (@qC _ _ _ _ _ _ hX.own (@aV _ _ _ _ _ _ _ _ vW (Xb (aK K) (by exact rfl) T.dI PyProof.Rows.Boot.«len» (W8 (pv 5) ai)) aj (aX _)) (Xn (@a9 _ _ _ _ (Xg K PySem.F.plainAttrs_list PySem.F.slot_list_extend PySem.F.type_list_extend tJ (pv 4) (W8 (pv 5) ai)) (Xz)) (Xn (Xp (@aV _ _ _ _ _ _ _ _ vW (Xb (aK K) (by exact rfl) T.dI PyProof.Rows.Boot.«len» (W8 (pv 4) ai)) (@eX _ _ _ _ dJ (Xz) (Xy)) (aX _)) (Xh (@ij _ _ _ _ _ _ _ _ _ _ hX Xw (by exact rfl) ju.m ju.e (W8 (@lg _ _ _ _ _ _ (@eL _ _ _ _ _ c7 (@eL _ _ _ _ _ (@oK _ _ _ _ (@eX _ _ _ _ dJ (Xz) (Xy))) (@eL _ _ _ _ _ c7 uo)))) ai) (Xy) (Xz) (Xz))) aS) (Xn (@a9 _ _ _ _ (W9 g8 aT (W8 (pv 3) (W8 (pv 5) ai))) (Xz)) (Xh (W_ (5) iy.nd (W9 fL aT (W8 (pv 3) (W8 (pv 2) ai))))))))) (Xh (@aN _ _ _ _ (@De _ K _ _ _ _ _ _ _ _ _ _ _ jS (hr.mono (Xy)) (pv 4) (by exact rfl) iw (Xz) (Xy) (Xz) (Xz)))))))),?_⟩;have X8:c.xs.length*c.ys.length≤3000:=Nat.le_trans (Nat.mul_le_mul hx hy) (Xy);have Qw:=Ie c [];refine⟨fun σ H1=>∃w as,σ=[some (.ref a),some (.ref b),some (.ref t),some (.ref w),none,none]∧au H H1∧H1 w=some (.lst (as.map V.ref))∧il H1 as (j1 c []) c.xs.length c.ys.length∧as.Nodup∧w∉as∧∀a∈as,H a=none,?_,?_⟩
  ·exact⟨_,rfl,_,rfl,_,rfl,a,b,t, .cD,c,[],rfl,ha,hb,TF, .inl ⟨rfl,rfl⟩,XA,Xx,Xx,fun H1 w as s1 h1 _ h3 h4 h5 h6=>⟨w,as,rfl,s1,h1,h3,h4,h5,h6⟩⟩
  rintro σ H1 ⟨w,as,rfl,s1,sD,Qx,LJ,nw,has⟩;refine⟨fun σ H2=>∃fl,σ=[some (.ref a),some (.ref b),some (.ref t),some (.ref w),some (.ref fl),none]∧au H1 H2∧H1 fl=none∧H2 fl=some (.lst []),⟨aD Xr,fun fl h=>⟨fl,rfl,au.upd h,h,ae⟩⟩,?_⟩;rintro σ H2 ⟨fl,rfl,s2,Ju,Ms⟩;have alloc:∀x∈as,∃xs,H1 x=some (.lst xs):=fun x hx=>by
   obtain⟨k,hk,ek⟩:=List.mem_iff_getElem.mp hx;exact⟨_,Qx.row k x (by rw[List.getElem?_eq_getElem hk,ek])⟩
  have Sq:fl∉as:=fun z=>by
   obtain⟨xs,h⟩:=alloc fl z;rw[Ju]at h;cases h
  have Fq:w≠fl:=aB sD Ju;have rd:∀f H3,(∀x∈as,∃xs,H3 x=some (.lst xs))→H3 w=some (.lst (as.map V.ref))→il H3 as f c.xs.length c.ys.length→au H H3→∀done,Reach (j1 c []) c.out c.into c.least done f→∀(Q':VK)(E':XK),(∀H4 r,au H3 H4→H3 r=none→∀us ds,H4 r=some (.lst us)→ck (fun b=>H3 b=none) H4 aA us ds→((us=[]∧ds=[]∧Stop f c.out c.into c.least)∨(us≠[]∧∃W gs,lA f c.out c.into c.least W gs ds))→Q' (.ref r) H4)→nB aQ aA [.ref w, .ref t] H3 Q' E':=fun f H3 al h3 T3 s3 done RC Q' E' k=>by
   refine⟨w,t,as,c,f,_,_,rfl,h3,T3,TF.keep s3,RC.PU Qw,X8,Xx,Xx,fun st H4 r s4 h4 h5=>k H4 r s4 h4 [] [] h5 .nil (.inl ⟨rfl,rfl,st⟩),fun W gs ds R Qp H4 r us s4 h4 h5 FL=>k H4 r s4 h4 us ds h5 FL (.inr ⟨fun z=>Qp ?_,W,gs,R⟩)⟩;have:=FL.1;rw[z]at this;have:ds=[]:=List.length_eq_zero_iff.mp (by simpa using this.symm);rw[←R.DS,this];rfl
  have Sr:∀b o,b∉as→b≠fl→H1 b=some o→H2 b=some o:=fun b o _ _ e=>s2 b o e
  have J6:=s1.trans s2;refine⟨fun σ H3=>∃md us ds,σ=[some (.ref a),some (.ref b),some (.ref t),some (.ref w),some (.ref fl),some (.ref md)]∧au H2 H3∧H2 md=none∧H3 md=some (.lst us)∧ck (fun b=>H2 b=none) H3 aA us ds∧((us=[]∧ds=[]∧Stop (j1 c []) c.out c.into c.least)∨(us≠[]∧∃W gs,lA (j1 c []) c.out c.into c.least W gs ds)),?_,?_⟩
  ·exact⟨_,rfl,_,rfl,rd _ H2 (fun x hx=>let ⟨xs,h⟩:=alloc x hx;⟨xs,s2 _ _ h⟩) (s2 _ _ sD) (Qx.same s2) J6 [] .start _ _ fun H4 r s4 h4 us ds h5 FL z=>⟨r,us,ds,rfl,s4,h4,h5,FL,z⟩⟩
  rintro σ H3 ⟨md,us,ds,rfl,s3,Fs,Qy,VR,Z3⟩;refine⟨fun σ H5=>∃md ul es f,σ=[some (.ref a),some (.ref b),some (.ref t),some (.ref w),some (.ref fl),some (.ref md)]∧au H H5∧H5 fl=some (.lst ul)∧ck (fun b=>H2 b=none) H5 aA ul es∧Reach (j1 c []) c.out c.into c.least es f∧Stop f c.out c.into c.least∧es.length≤20,?_,?_⟩
  ·refine⟨fun mm σ H4=>∃md us ds ul es f,mm+es.length=20∧σ=[some (.ref a),some (.ref b),some (.ref t),some (.ref w),some (.ref fl),some (.ref md)]∧au H H4∧(∀b o,b∉as→b≠fl→H2 b=some o→H4 b=some o)∧il H4 as f c.xs.length c.ys.length∧H4 fl=some (.lst ul)∧ck (fun b=>H2 b=none) H4 aA ul es∧Reach (j1 c []) c.out c.into c.least es f∧H2 md=none∧H4 md=some (.lst us)∧ck (fun b=>H2 b=none) H4 aA us ds∧((us=[]∧ds=[]∧Stop f c.out c.into c.least)∨(us≠[]∧∃W gs,lA f c.out c.into c.least W gs ds)),⟨20,md,us,ds,[],[],j1 c [],rfl,rfl,J6.trans s3,fun b o _ _ e=>s3 b o e,(Qx.same s2).same s3,s3 _ _ Ms, .nil, .start,Fs,Qy,VR,Z3⟩,?_⟩;rintro mm σ H4 ⟨md,us,ds,ul,es,f1,WR,rfl,sH,k4,T4,Ft,FE,RC,Fs,Jv,FD,Z4⟩;have VS:∀x∈as,∃xs,H2 x=some (.lst xs):=fun x hx=>let ⟨xs,h⟩:=alloc x hx;⟨xs,s2 _ _ h⟩
   have P2:∀{b},H2 b=none→b∉as:=fun{b} h z=>by
    obtain⟨xs,h'⟩:=VS b z;rw[h]at h';cases h'
   have Qz:∀{b},H2 b=none→b≠fl:=fun{b} h z=>by rw[z,Ms]at h;cases h
   have NY:=FE.1;have WS:=FD.1;refine⟨_,rfl,md,_,rfl, .inl (.of Jv),_,_,rfl,rfl,_,rfl,?_⟩;refine bu (fun hh=>?_) (fun hh=>?_)
   ·have hh:0<us.length:=by simpa using hh
    rcases Z4 with⟨z1,_,_⟩|⟨Ss,W,gs,R⟩
    ·rw[z1]at hh;simp at hh
    have NC:ds.length≤c.xs.length*c.ys.length:=by
     have:=R.told.ue (n:=c.xs.length) (m:=c.ys.length) fun g hg q hq=>by
      obtain⟨ps,wp,hm⟩:=(R.told.mem hg hq).on;exact i9 (RC.PU Qw) wp.1 hm
     rw[←R.DS,List.length_map]at this;exact this
    refine⟨_,fun bo H' z=>z,?_⟩;have VT:md≠fl:=Qz Fs;refine⟨fun σ H5=>σ=[some (.ref a),some (.ref b),some (.ref t),some (.ref w),some (.ref fl),some (.ref md)]∧H5=upd H4 fl (.lst (ul++us)),⟨_,rfl, .inl ⟨rfl,_, .of Ft⟩,_,rfl,fl,md,ul,us,rfl,rfl,Ft,Jv,aD Xs,rfl,rfl⟩,?_⟩;rintro σ H5 ⟨rfl,rfl⟩;have Su:au H (upd H4 fl (.lst (ul++us))):=sH.eQ (s1.free Ju);have Sx:eV H4 (upd H4 fl (.lst (ul++us))):=eV.lst Ft;have VU:ck (fun b=>H2 b=none) (upd H4 fl (.lst (ul++us))) aA ul es:=FE.keep (fun b o hb e=>by rw[af (Qz hb)];exact e) Sx fun _ h=>h
    have Sy:ck (fun b=>H2 b=none) (upd H4 fl (.lst (ul++us))) aA us ds:=FD.keep (fun b o hb e=>by rw[af (Qz hb)];exact e) Sx fun _ h=>h
    have QA:=RC.round R;refine⟨fun σ H6=>σ=[some (.ref a),some (.ref b),some (.ref t),some (.ref w),some (.ref fl),some (.ref md)]∧H6=upd H4 fl (.lst (ul++us))∧(es++ds).length≤20,?_,?_⟩
    ·refine⟨_,rfl,fl,_,rfl, .inl (.of ae),_,_,rfl,rfl,_,rfl,?_⟩;refine bu (fun h9=>?_) (fun h9=>?_)
     ·have h9:20<(ul++us).length:=by
       have:(20:Int)<((ul++us).length:Nat):=by simpa using h9
       omega
      have:=q2 _ _ QA (by rw[List.length_append]at h9⊢;omega) _ Su;have z:(20:Int).natAbs.log2<1920∧(Str.ofString (toString (20:Int))).length≤6:=⟨Xy,by decide+kernel⟩
      have w1:(Str.ofString "there are at most ").length=18:=by decide+kernel
      have w2:(Str.ofString " findings between two books").length=27:=by decide+kernel
      have w3:=ll;refine⟨_,rfl,aD ?_, .inr ⟨20,rfl,z.1,_,rfl,aD ?_,_,rfl,aD ?_,aD ?_,gE,this⟩⟩;all_goals (simp only[len_app];omega)
     ·have h9:¬20<(ul++us).length:=by
       have:¬(20:Int)<((ul++us).length:Nat):=by simpa using h9
       omega
      exact⟨rfl,rfl,by rw[List.length_append]at h9⊢;omega⟩
    rintro σ H6 ⟨rfl,rfl,hle⟩;refine⟨fun σ H7=>σ=[some (.ref a),some (.ref b),some (.ref t),some (.ref w),some (.ref fl),some (.ref md)]∧(∀b o,b∉as→upd H4 fl (.lst (ul++us)) b=some o→H7 b=some o)∧eV (upd H4 fl (.lst (ul++us))) H7∧il H7 as (j5 f1 gs.flatten) c.xs.length c.ys.length,?_,?_⟩
    ·refine⟨_,rfl,_,rfl,w,md,as,us,ds,f1,_,_,rfl,by rw[af Fq];exact k4 _ _ nw Fq (s2 _ _ sD),LJ,nw,⟨T4.len,fun i x hx=>by rw[af (fun z=>Sq (by rw[←z];exact Xi hx))];exact T4.row i x hx⟩,by rw[af VT];exact Jv,P2 Fs,Sy.keep (fun _ _ _ h=>h) (fun _ _ h=>h) (fun _ h=>P2 h),fun d hd q hq=>?_,fun H7 k7 t7 T7=>⟨rfl,k7,t7,by rw[←R.DS];exact T7⟩⟩;have hg:d.pairs∈gs:=by rw[←R.DS];exact List.mem_map.mpr ⟨d,hd,rfl⟩
     obtain⟨ps,wp,hm⟩:=(R.told.mem hg hq).on;exact i9 (RC.PU Qw) wp.1 hm
    rintro σ H7 ⟨rfl,k7,t7,T7⟩;have Sz:au H H7:=fun b o e=>k7 b o (fun z=>by rw[has b z]at e;cases e) (Su b o e)
    have SA:∀x∈as,∃xs,H7 x=some (.lst xs):=fun x hx=>by
     obtain⟨k,hk,ek⟩:=List.mem_iff_getElem.mp hx;exact⟨_,T7.row k x (by rw[List.getElem?_eq_getElem hk,ek])⟩
    have w7:H7 w=some (.lst (as.map V.ref)):=k7 w _ nw (by rw[af Fq];exact k4 _ _ nw Fq (s2 _ _ sD));have F7:ck (fun b=>H2 b=none) H7 aA (ul++us) (es++ds):=(VU.append Sy).keep (fun b o hb e=>k7 b o (P2 hb) e) t7 fun _ h=>h
    have SD:H7 fl=some (.lst (ul++us)):=k7 fl _ Sq ae;refine⟨_,rfl,_,rfl,rd _ H7 SA w7 T7 Sz _ QA _ _ fun H8 r s8 h8 VV VW VX VY Z8=>?_⟩;have SE:∀b,H7 b=none→H2 b=none:=fun b h=>by
     cases e:H2 b with
     |none=>rfl
     |some o=>
      by_cases QB:b∈as
      ·obtain⟨xs,h'⟩:=SA b QB;rw[h]at h';cases h'
      ·by_cases QC:b=fl
       ·rw[QC,SD]at h;cases h
       ·rw[k7 b o QB (by rw[af QC];exact k4 b o QB QC e)]at h;cases h
    refine⟨20-(es++ds).length,?_,r,VV,VW,ul++us,es++ds,_,Xx,rfl,Sz.trans s8,fun b o h1 h2 e=>s8 b o (k7 b o h1 (by rw[af h2];exact k4 b o h1 h2 e)),T7.same s8,s8 _ _ SD,F7.keep (fun b o _ e=>s8 b o e) (eV.same s8) fun _ h=>h,QA,SE r h8,VX,VY.keep (fun _ _ _ h=>h) (fun _ _ h=>h) fun b h=>SE b h,Z8⟩;rw[List.length_append]at hle⊢;omega
   ·have hh:us.length=0:=by
     have:¬(0:Int)<(us.length:Nat):=by simpa using hh
     omega
    rcases Z4 with⟨_,_,z3⟩|⟨Ss,_⟩
    ·exact⟨md,ul,es,f1,rfl,sH,Ft,FE,RC,z3,Xx⟩
    ·exact absurd (List.length_eq_zero_iff.mp hh) Ss
  rintro σ H5 ⟨md,ul,es,f1,rfl,sH,QD,FE,RC,ST,hle⟩;have NY:=FE.1;have AP:=RC.apart;have Mt:∀d∈es,lI d.pairs∈d.pairs:=fun d hd=>by
   cases e:d.pairs with
   |nil=>exact absurd e (AP.qT d hd).2
   |cons a r=>simp[lI]
  refine⟨_,rfl,fl,ul,es.map (fun d=>(-d.worth,lI d.pairs)),rfl, .of QD,by rw[List.length_map];omega,?_,Xx,fun i v H6 hv s6=>?_,fun p H6 D hp hs s6 hD Mn=>?_⟩
  ·refine List.pairwise_map.mpr (List.Pairwise.imp_of_mem (fun{x y} hx hy X8 e=>?_) AP.ap);have:=(Prod.mk.inj e).2;exact X8 _ (Mt x hx) (by rw[this];exact Mt y hy)
  ·have hi:i<es.length:=by rw[←NY];exact(Xd hv).1
   have ei:es[i]?=some es[i]:=by simp[hi]
   have ip:es[i]∈es:=List.getElem_mem hi;have eg:(es.map fun d=>(-d.worth,lI d.pairs)).getD i (0,(0,0))=(-es[i].worth,lI es[i].pairs):=by simp[hi]
   rw[eg];generalize es[i]=d at ei ip;obtain⟨x,dy,wy,jy,pr,mf,i7,e1,F⟩:=FE.2 i d ei;rw[hv]at e1;cases e1;exact⟨x,dy,wy,jy,pr,d.worth,i7,d.pairs,rfl,s6 _ _ F.ob,s6 _ _ F.hp,F.pp.same s6,(AP.qT d ip).2,fun H7 k t s7 hk ht=>⟨s7,k,t,rfl,hk,ht⟩⟩
  ·have pN:p.toList.Perm (List.range es.length):=by rw[←NY];exact hp
   have Jw:∀i∈p.toList,i<es.length:=fun i hi=>by simpa using pN.mem_iff.mp hi
   have dflt:Fd:=⟨0,[],[],[]⟩
   refine q1 (p.toList.map fun i=>es.getD i dflt) ⟨⟨es,f1,RC,ST,?_⟩,?_,?_⟩ _ D _ ((sH.trans s6).eQ (sH.free hD)) (sH.free hD) ae ?_
   ·have e1:(List.range es.length).map (fun i=>es.getD i dflt)=es:=by
     apply List.ext_getElem
     ·simp
     ·intro i h1 h2;simp[h2]
    have:=pN.map fun i=>es.getD i dflt
    rw[e1]at this;exact this
   ·rw[List.length_map,pN.length_eq,List.length_range];exact hle
   ·rw[List.pairwise_map,List.pairwise_iff_getElem];intro i j hi hj r6;have hsz:p.size=es.length:=by have:=pN.length_eq;simpa using this
    have:=hs i j r6 (by rw[NY,←hsz];simpa using hj);have g1:gd p i=p.toList[i]:=by rw[CH];simp at hi;simp[hi]
    have g2:gd p j=p.toList[j]:=by rw[CH];simp at hj;simp[hj]
    rw[g1,g2]at this;have l1:=Jw _ (List.getElem_mem hi);have l2:=Jw _ (List.getElem_mem hj);generalize p.toList[i]=x at this l1;generalize p.toList[j]=y at this l2;unfold kl X3 at this;unfold Jj;simp only[List.getD_eq_getElem?_getD,List.getElem?_map,List.getElem?_eq_getElem l1,List.getElem?_eq_getElem l2,Option.map_some,Option.getD_some]at this⊢;by_cases ew:es[x].worth=es[y].worth
    ·rw[Xo ew];rw[Xo (by rw[ew])]at this;exact this
    ·rw[Xk ew];rw[Xk (fun z=>ew Xs)]at this;simp at this⊢;omega
   ·refine⟨XA,fun k d hk=>?_⟩;rw[List.getElem?_map]at hk;cases e:p.toList[k]? with
    |none=>rw[e]at hk;cases hk
    |some i=>
     rw[e]at hk;have hi:=Jw i (Xi e);have hd:es.getD i dflt=d:=by simpa using hk
     have ei:es[i]?=some d:=by rw[←hd];simp[hi]
     obtain⟨x,dy,wy,jy,pr,mf,i7,e1,F⟩:=FE.2 i d ei;have nD:∀{b o},H5 b=some o→b≠D:=fun h z=>by rw[z,hD]at h;cases h
     refine⟨x,dy,wy,jy,pr,mf,i7,?_,F.ob|>fun h=>⟨by rw[af (nD h)];exact s6 _ _ h,by rw[af (nD F.hw)];exact s6 _ _ F.hw,(F.pw.same s6).same (au.upd Mn),by rw[af (nD F.hr)];exact s6 _ _ F.hr,by rw[af (nD F.hp)];exact s6 _ _ F.hp,(F.pp.same s6).same (au.upd Mn),J6.free F.fa,J6.free F.fw,J6.free F.fr,J6.free F.fp⟩⟩;rw[List.getElem?_map,e];show some (ul.getD i .cD)=_;simp[e1]
theorem Zc:aJ ["_law_script","_law_k"] ["_law_script","_law_k"] (aq o8):=⟨rfl,rfl,rfl,by decide+kernel,rfl,by decide+kernel,by decide+kernel⟩
include T in
theorem Zy{f:Addr}{fd:FuncData}(F:jY K "_law_at" "_law_at" o8 f fd):aY P w K mg base (c8 P w) true 1 f fd ["_law_script","_law_k"] (Ci K):=by
 refine F.gL Zc Xu (fun bY A outer s H vs Q E hr h hX=>?_)
 ·obtain⟨a,ns,k,rfl,_⟩:=h;rfl
 ·obtain⟨a,ns,k,rfl,hS,h0,q⟩:=h;refine⟨_,(Xj (Xp (@aV _ _ _ _ _ _ _ _ qF (pv 1) (Xb (aK K) (by exact rfl) T.dI PyProof.Rows.Boot.«len» (W8 (pv 0) ai)) (aX _)) (Xh (@aN _ _ _ _ (Xa (ar K) (pv 0) (pv 1)))) aS) (Xh (@aN _ _ _ _ aj))),?_⟩;refine⟨_,rfl,_,rfl,a,_,rfl, .inl hS,_,_,rfl,rfl,_,rfl,?_⟩;refine bu (fun h=>?_) (fun h=>?_)
  ·have h:k<((ns.map V.int).length:Int):=by simpa using h
   rw[List.length_map]at h;exact⟨_,rfl,_,rfl,a,_,k,_,rfl,rfl,hS,EB h0 h,q⟩
  ·have h:¬k<((ns.map V.int).length:Int):=by simpa using h
   rw[List.length_map]at h;rw[cell_out h0 h]at q;exact q
theorem sJ:aJ ["_law_found"] ["_law_found"] (aq jM):=⟨rfl,rfl,rfl,by decide+kernel,rfl,by decide+kernel,by decide+kernel⟩
include T in
theorem sL{f:Addr}{fd:FuncData}(F:jY K "_law_whole" "_law_whole" jM f fd):aY P w K mg base (c8 P w) true 1 f fd ["_law_found"] qN:=by
 refine F.gL sJ Xu (fun bY A outer s H vs Q E hr h hX=>?_)
 ·obtain⟨i,rfl,_⟩:=h;rfl
 ·obtain⟨i,rfl,q⟩:=h;refine⟨_,(Xh (@aN _ _ _ _ (@t_ _ _ _ _ _ _ _ (Xb (f_ K) (by exact rfl) T.dz PyProof.Rows.Boot.«isinstance» (W8 (pv 0) (W8 (@jB _ _ (.ty "int") _ _ (by exact rfl) T.FZ PyProof.Rows.Boot.«int» Xw (Xy) (Xy)) ai))) (@t9 _ _ _ _ _ (@Hf _ _ _ _ (Xb (f_ K) (by exact rfl) T.dz PyProof.Rows.Boot.«isinstance» (W8 (pv 0) (W8 (@jB _ _ (.ty "bool") _ _ (by exact rfl) T.HS PyProof.Rows.Boot.«bool» Xw (Xy) (Xy)) ai)))))))),?_⟩;refine⟨_,rfl,_,_,_,true,_,rfl,rfl, .int i,rfl,_,rfl,?_⟩;refine ko ?_;exact⟨_,rfl,_,_,_,false,_,rfl,rfl, .int i,by kernel_rfl,_,rfl,q⟩
theorem bx:aJ ["_law_cell","_law_other","_law_many","_law_letters","_law_stem","_law_rest","_law_k","_law_size","_law_found","_law_spot","_law_sign"] ["_law_cell","_law_other","_law_many"] (aq kD):=⟨rfl,rfl,rfl,by decide+kernel,rfl,by decide+kernel,by decide+kernel⟩
include T in
theorem vc{f:Addr}{fd:FuncData}(F:jY K "_law_bank" "_law_bank" kD f fd):aY P w K mg base (c8 P w) true 1 f fd ["_law_cell","_law_other","_law_many"] uF:=by
 refine F.gL bx Xu (fun bY A outer s H vs Q E hr h hX=>?_)
 ·obtain⟨cell,other,many,rfl,_⟩:=h;rfl
 ·obtain⟨cell,other,many,rfl,VZ,hm,q⟩:=h;have V1:=Z7;have SF:(0:Int)<26:=Xy;have SG:(0:Int)<12:=Xy;refine⟨_,(Xj (W_ (3) bx.nd c7) (Xj (W_ (4) bx.nd c7) (Xj (W_ (5) bx.nd (Xe dR (pv 0) aj)) (Xj (@cy _ _ _ _ _ _ _ _ hX.own Xw (@fg _ _ _ _ _ _ (by exact rfl) T.gq (W8 aj ai) (Xz)) (W' (6) bx.nd (Or.inl rfl)) (Xj (W_ (4) bx.nd (Xe ic (pv 4) (Xa uh (pv 3) (Xe cb (pv 5) aj)))) (Xh (W_ (5) bx.nd (Xe dR (pv 5) aj)))) (by intro _;rfl)) (Xj (W_ (7) bx.nd (Xe bM aj (Xe cb (Xe dR (pv 0) aj) aj))) (Xj (W_ (8) bx.nd (@cA _ _ _ _ ai)) (Xj (@cy _ _ _ _ _ _ _ _ hX.own Xw (@fg _ _ _ _ _ _ (by exact rfl) T.gq (W8 (pv 2) ai) (Xz)) (W' (6) bx.nd (Or.inl rfl)) (Xh (Xp (@aV _ _ _ _ _ _ _ _ iH (Xe cb (pv 0) aj) aj (aX _)) (Xh (@a9 _ _ _ _ (Xg K PySem.F.plainAttrs_list PySem.F.slot_list_append PySem.F.type_list_append cn (pv 8) (W8 (@kn _ _ _ _ _ _ _ _ _ _ uw (pv 4) qt (@lb _ _ _ (Xe bM aj (Xe cb (Xe bM (pv 7) (pv 6)) aj)))) ai)) (Xz))) (Xj (W_ (9) bx.nd (Xe cb (pv 1) (pv 7))) (Xj (W_ (10) bx.nd (Xa uh (pv 3) (Xe cb (Xe bM (Xe dR (pv 1) aj) (pv 6)) aj))) (Xh (@a9 _ _ _ _ (Xg K PySem.F.plainAttrs_list PySem.F.slot_list_append PySem.F.type_list_append cn (pv 8) (W8 (Xe ic (Xe ic (@kn _ _ _ _ _ _ _ _ _ _ uw (pv 4) qt (@lb _ _ _ (pv 9))) (pv 10)) (@kn _ _ _ _ _ _ _ _ _ _ uw (pv 4) (@lb _ _ _ (Xe bM (pv 9) aj)) (@lb _ _ _ (pv 7)))) ai)) (Xz))))))) (by intro _;rfl)) (Xh (@aN _ _ _ _ (pv 8)))))))))),?_⟩;refine⟨_,rfl,_,_,rfl,rfl,⟨Xy,Xy⟩,?_⟩;refine⟨12,rfl,Xy,Xy,?_⟩;refine kY (fun i σ H'=>H'=H∧∃(bG:Str)(rest:Int)(kv:Option V),bG.length=i∧lows bG∧σ=[some (.int cell),some (.int other),some (.int many),some (.str F1),some (.str bG),some (.int rest),kv,none,none,none,none]) ⟨rfl,_,_,_,(by decide+kernel),(show(Str.ofString "").cps.toList.all low=true by decide+kernel),rfl⟩ ?_ ?_
  ·rintro i σ H' hi ⟨rfl,bG,rest,kv,hl,Jx,rfl⟩;have hi:i<12:=hi;refine⟨_,rfl,_,rfl,_,rfl,_,_,rfl,rfl,SF,_,_,_,rfl,rfl,aD Xs,YQ,_,_,rfl,rfl,aD (show bG.length+1≤100000 by omega),?_⟩;refine⟨_,rfl,_,_,rfl,rfl,⟨Xy,Xy⟩,rfl,_,_,_,?_,?_,rfl⟩
   ·rw[len_app,hl];rfl
   ·have h1:bG.cps.toList.all low=true:=Jx;have h2:=Yx rest;unfold lows;rw[nc,List.all_append,h1];simp[h2]
  ·rintro σ H' ⟨rfl,bG,rest,kv,hl,Jx,rfl⟩;have hl:bG.length=12:=hl;refine⟨_,rfl,_,_,rfl,rfl,⟨Xy,Xy⟩,_,_,rfl,rfl,SG,_,_,rfl,rfl,?_⟩;have z0:1≤1+cell/2%12∧1+cell/2%12≤12:=Xx;refine⟨aD Xr,fun D hD=>?_⟩;refine⟨_,rfl,many,rfl,Xx,Xx,?_⟩;refine kY (fun i σ H2=>(∃u v w,σ=[some (.int cell),some (.int other),some (.int many),some (.str F1),some (.str bG),some (.int rest),u,some (.int (1+cell/2%12)),some (.ref D),v,w])∧H2 D=some (.lst (((List.range i).map (jk bG cell other)).map V.str))∧au H' H2) ⟨⟨_,_,_,rfl⟩,ae,au.upd hD⟩ ?_ ?_
   ·rintro i σ H2 hi ⟨⟨u,v,w,rfl⟩,kJ,s2⟩;have hi:i<12:=Xx;have nx:∀z,z=jk bG cell other i→(List.range i).map (fun k=>V.str (jk bG cell other k))++[V.str z]=((List.range (i+1)).map (jk bG cell other)).map V.str:=fun z e=>by
     rw[List.range_succ,e];simp
    have gT:(((List.range i).map (jk bG cell other)).map V.str).length<sizeLine:=a_ (by simp;omega);refine⟨_,rfl,_,_,rfl,rfl,(show(0:Int)<2 by decide),rfl,_,rfl,?_⟩;refine bu (fun h=>?_) (fun h=>?_)
    ·have h:cell%2=1:=by simpa using h
     refine⟨_,rfl, .inl ⟨rfl,_, .of kJ⟩,_,rfl,_,rfl,_,rfl,_,_,rfl,rfl,_,_,rfl,rfl,SG,_,_,rfl,rfl,_,rfl,bG,rfl,aD Xs,D,_,_,rfl,rfl,kJ,gT,⟨_,_,_,rfl⟩,?_,s2.eQ hD⟩;rw[ae];have:=nx (Txt.slice bG none (some (1+(1+cell/2%12+(0+(i:Int)))%12))) (by simp[jk,h]);rw[←this];simp
    ·have h:¬cell%2=1:=by simpa using h
     have z1:0≤other%(1+cell/2%12)∧other%(1+cell/2%12)<1+cell/2%12:=⟨Int.emod_nonneg _ (Xx),Int.emod_lt_of_pos _ (Xx)⟩
     have b1:=oM bG none (some (other%(1+cell/2%12)));have b2:=oM bG (some (other%(1+cell/2%12)+1)) (some (1+cell/2%12));refine⟨_,rfl,_,rfl,_,_,rfl,rfl,(show(0:Int)<1+cell/2%12 by omega),?_⟩;refine⟨_,rfl,_,rfl,_,_,rfl,rfl,⟨Xy,Xy⟩,_,rfl,_,_,rfl,rfl,_,_,rfl,rfl,SF,_,_,_,rfl,rfl,aD Xs,YQ,?_⟩;refine⟨_,rfl, .inl ⟨rfl,_, .of kJ⟩,_,rfl,_,rfl,_,rfl,bG,rfl,aD Xs,_,rfl,_,_,rfl,rfl,aD (show(Txt.slice bG none (some (other%(1+cell/2%12)))).length+1≤100000 by omega),_,rfl,_,rfl,_,_,rfl,rfl,_,rfl,_,rfl,_,rfl,bG,rfl,aD Xs,_,_,rfl,rfl,?_,D,_,_,rfl,rfl,kJ,gT,⟨_,_,_,rfl⟩,?_,s2.eQ hD⟩
     ·rw[len_app];exact aD (show(Txt.slice bG none (some (other%(1+cell/2%12)))).length+1+_≤100000 by omega)
     rw[ae];have:=nx (Txt.slice bG none (some (other%(1+cell/2%12)))++⟨#[97+((other/12+(0+(i:Int)))%26).toNat]⟩++Txt.slice bG (some (other%(1+cell/2%12)+1)) (some (1+cell/2%12))) (by simp[jk,h]);rw[←this];simp
   ·rintro σ H2 ⟨⟨u,v,w,rfl⟩,kJ,s2⟩;refine⟨_,rfl,q H2 D _ s2 hD kJ Xr ?_ (ZU hl cell other (Xx))⟩;intro z hz;obtain⟨k,_,rfl⟩:=List.mem_map.mp hz;exact Cr hl Jx cell other k
variable(bC:bZ P w K mg base true 1 "_law_at" ["_law_script","_law_k"] (Ci K))
theorem fM:aJ ["_law_script","_law_cell","_law_spot","_law_many","_law_bank_here","_law_book_here","_law_rest","_law_k"] ["_law_script","_law_cell","_law_spot","_law_many","_law_bank_here"] (aq kE):=⟨rfl,rfl,rfl,by decide+kernel,rfl,by decide+kernel,by decide+kernel⟩
include T bC in
theorem ve{f:Addr}{fd:FuncData}(F:jY K "_law_book" "_law_book" kE f fd):aY P w K mg base (c8 P w) true 2 f fd ["_law_script","_law_cell","_law_spot","_law_many","_law_bank_here"] (uH K):=by
 refine F.gL fM Xu (fun bY A outer s H vs Q E hr h hX=>?_)
 ·obtain⟨a,b,ns,zs,c,p,m,rfl,_⟩:=h;rfl
 ·obtain⟨a,b,ns,zs,c,p,m,rfl,hS,hb,⟨WT,O7⟩,WU,VZ,DW,q⟩:=h;refine⟨_,(Xj (W_ (5) fM.nd (@cA _ _ _ _ ai)) (Xj (W_ (6) fM.nd (pv 1)) (Xj (@cy _ _ _ _ _ _ _ _ hX.own Xw (@fg _ _ _ _ _ _ (by exact rfl) T.gq (W8 (pv 3) ai) (Xz)) (W' (7) fM.nd (Or.inl rfl)) (Xj (@a9 _ _ _ _ (Xg K PySem.F.plainAttrs_list PySem.F.slot_list_append PySem.F.type_list_append cn (pv 5) (W8 (Xa (ar K) (pv 4) (Xe cb (Xe bM (Xe bM (pv 6) (pv 7)) (W9 bC aT (W8 (pv 0) (W8 (Xe bM (pv 2) (pv 7)) ai)))) (Xb (aK K) (by exact rfl) T.dI PyProof.Rows.Boot.«len» (W8 (pv 4) ai)))) ai)) (Xz)) (Xh (W_ (6) fM.nd (Xe dR (pv 6) (Xb (aK K) (by exact rfl) T.dI PyProof.Rows.Boot.«len» (W8 (pv 4) ai)))))) (by intro _;rfl)) (Xh (@aN _ _ _ _ (pv 5)))))),?_⟩;refine⟨aD Xr,fun l hl=>?_⟩;refine⟨_,rfl,?_⟩;refine⟨_,rfl,m,rfl,Xx,Xx,?_⟩;refine kY (fun i σ H'=>(∃r u,σ=[some (.ref a),some (.int c),some (.int p),some (.int m),some (.ref b),some (.ref l),some (.int r),u])∧au H H'∧∃ws:List Str,H' l=some (.lst (ws.map V.str))∧ws.length=i∧∀w∈ws,w∈zs) ⟨⟨_,_,rfl⟩,au.upd hl,[],ae,rfl,fun w hw=>by cases hw⟩ ?_ ?_
  ·rintro i σ H' hi ⟨⟨r,u,rfl⟩,s1,ws,mS,sD,QE⟩;have hi:i<m.toNat:=hi;have mR:=s1 _ _ hb;have z0:0≤(r+(0+(i:Int))+cell ns (p+(0+(i:Int))))%(zs.length:Int):=Int.emod_nonneg _ (Xx);have z1:(r+(0+(i:Int))+cell ns (p+(0+(i:Int))))%(zs.length:Int)<(zs.length:Int):=Int.emod_lt_of_pos _ (Xx);obtain⟨w,hw,V4⟩:=HX zs z0 z1;have el:(zs.map V.str).length=zs.length:=List.length_map ..;refine⟨_,rfl, .inl ⟨rfl,_, .of mS⟩,_,rfl,_,rfl,_,rfl,_,_,rfl,rfl,_,rfl,_,rfl,_,rfl,_,_,rfl,rfl,a,ns,_,rfl,s1.seq hS,Xx,_,_,rfl,rfl,_,rfl,b,_,rfl, .inl (.of mR),_,_,rfl,rfl,(by rw[el];show(0:Int)<_;omega),b,_,_,_,rfl,rfl, .of mR,(by rw[el];exact V4),l,_,_,rfl,rfl,mS,a_ (by rw[List.length_map];omega),?_⟩;have Fi:b≠l:=aB hb hl;have Dn:upd H' l (.lst (ws.map V.str++[.str w])) b=some (.lst (zs.map V.str)):=by rw[af Fi];exact mR
   refine⟨_,rfl,_,rfl,b,_,rfl, .inl (.of Dn),_,_,rfl,rfl,⟨by rw[el];omega,by rw[el];omega⟩,⟨_,_,rfl⟩,s1.eQ hl,ws++[w],?_,by simp[sD],?_⟩
   ·rw[ae];simp
   ·intro x hx;rcases List.mem_append.mp hx with hx|hx
    ·exact QE x hx
    ·have:x=w:=by simpa using hx
     rw[this];exact hw
  ·rintro σ H' ⟨⟨r,u,rfl⟩,s1,ws,mS,sD,QE⟩;exact⟨_,rfl,q H' l ws s1 hl mS sD QE⟩
theorem dM:aJ ["_law_script","_law_spot","_law_pick","_law_same","_law_most"] ["_law_script","_law_spot"] (aq fH):=⟨rfl,rfl,rfl,by decide+kernel,rfl,by decide+kernel,by decide+kernel⟩
include T bC in
theorem qg{f:Addr}{fd:FuncData}(F:jY K "_law_numbers" "_law_numbers" fH f fd):aY P w K mg base (c8 P w) true 2 f fd ["_law_script","_law_spot"] (l_ K):=by
 refine F.gL dM Xu (fun bY A outer s H vs Q E hr h hX=>?_)
 ·obtain⟨a,ns,k,rfl,_⟩:=h;rfl
 ·obtain⟨a,ns,k,rfl,hS,h0,q⟩:=h;have c2:(0:Int)<2:=Xy;have c4:(0:Int)<4:=Xy;have c6:(0:Int)<6:=Xy;have cM:(0:Int)<1000000:=Xy;have SH:∀i:Int,Hn i 4:=fun i=>⟨Xy,Xy⟩
  have V5:∀i:Int,Hn i 8:=fun i=>⟨Xy,Xy⟩
  refine⟨_,(Xj (@jC _ _ _ _ _ _ _ _ _ _ _ _ _ _ _ (2) _ _ (by exact rfl) dM.nd Xw (by exact rfl) (show ba ["_law_script","_law_spot","_law_pick","_law_same","_law_most"] (aq fH) _ ["_law_k"] [0,1] ["_law_script","_law_spot"]from⟨rfl,by decide+kernel,by decide+kernel,by decide+kernel,rfl,rfl,by decide+kernel,by decide+kernel,by decide+kernel⟩) (@fg _ _ _ _ _ _ (by exact rfl) T.gq (W8 aj ai) (Xz)) (fun _ _ _ _ _=>(W' (0) (show(["_law_k","_law_script","_law_spot"]:List Str).Nodup by decide+kernel) (Or.inl rfl))) (fun _ _ _ _ _=>fA) (fun _ _ _ _ _=>(W9 bC aT (W8 (pv 1) (W8 (Xe bM (pv 2) (pv 0)) ai)))) (Xz) (by intro _;rfl)) (Xj (Xp (@aV _ _ _ _ _ _ _ _ qF (Xe cb (Xa (ar K) (pv 2) aj) aj) aj (aX _)) (Xj (W_ (3) dM.nd (Xe bM aj (Xe cb (Xe dR (Xa (ar K) (pv 2) aj) aj) aj))) (Xh (@aN _ _ _ _ (@cA _ _ _ _ (W8 (pv 3) (W8 (Xe cb (Xa (ar K) (pv 2) aj) aj) (W8 (Xe cb (Xa (ar K) (pv 2) aj) aj) (W8 (Xe bM aj (Xe cb (Xa (ar K) (pv 2) aj) (Xe oG aj (pv 3)))) ai)))))))) aS) (Xj (W_ (3) dM.nd (Xe bM aj (Xe cb (Xe dR (Xa (ar K) (pv 2) aj) aj) aj))) (Xj (W_ (4) dM.nd (Xa (ar K) (@cA _ _ _ _ (W8 (Xb (k8 rfl) (by exact rfl) T.Y5 PyProof.Rows.Boot.«min» (W8 aj (W8 (Xe oG aj (pv 3)) ai))) (W8 aj ai))) (Xe cb (Xe dR (Xa (ar K) (pv 2) aj) aj) aj))) (Xh (@aN _ _ _ _ (@cA _ _ _ _ (W8 (pv 3) (W8 (Xe cb (Xa (ar K) (pv 2) aj) aj) (W8 (Xe cb (Xa (ar K) (pv 2) aj) aj) (W8 (Xe bM aj (Xe cb (Xa (ar K) (pv 2) aj) (pv 4))) ai))))))))))),?_⟩;refine⟨4,rfl,Xy,Xy,fun D hD=>?_⟩;refine jD (fun i ys bo H'=>(∃u,bo=[u,some (.ref a),some (.int k)])∧∃is:List Int,ys=is.map V.int∧is.length=i∧H' D=some (.lst ys)∧au H H') ⟨⟨_,rfl⟩,[],rfl,rfl,ae,au.upd hD⟩ ?_ ?_
  ·rintro i ys bo H' hi ⟨⟨u,rfl⟩,is,rfl,hl,V6,s1⟩;have hi:i<4:=hi;refine kr ?_;exact⟨_,rfl,_,rfl,_,rfl,_,_,rfl,rfl,a,ns,_,rfl,s1.seq hS,by lia,V6,a_ (by rw[List.length_map];lia),⟨_,rfl⟩,is++[cell ns (k+(0+(i:Int)))],XA,by simp[hl],ae,s1.eQ hD⟩
  ·rintro ys bo H1 ⟨_,is,rfl,hl,qc,s1⟩;obtain⟨p0,p1,p2,p3,rfl⟩:=EF hl;refine⟨_,rfl,D,_,0,_,rfl,rfl, .of qc,av (j:=0) rfl,_,_,rfl,rfl,c4,_,_,rfl,rfl,_,rfl,?_⟩;refine bu (fun _=>?_) (fun _=>?_)
   ·refine⟨_,rfl,D,_,0,_,rfl,rfl, .of qc,av (j:=0) rfl,_,_,rfl,rfl,SH _,_,_,rfl,rfl,c6,_,_,rfl,rfl,?_⟩;have z0:1≤1+p0/4%6∧1+p0/4%6≤6:=by lia
    have z3:0≤p3%(3*(1+p0/4%6)):=Int.emod_nonneg _ (by lia);have z4:p3%(3*(1+p0/4%6))<3*(1+p0/4%6):=Int.emod_lt_of_pos _ (by lia);exact⟨_,rfl,_,rfl,D,_,1,_,rfl,rfl, .of qc,av (j:=1) rfl,_,_,rfl,rfl,c4,_,rfl,D,_,2,_,rfl,rfl, .of qc,av (j:=2) rfl,_,_,rfl,rfl,c4,_,rfl,D,_,3,_,rfl,rfl, .of qc,av (j:=3) rfl,_,rfl,_,_,rfl,rfl, .inl (Xy),_,_,rfl,rfl,(show(0:Int)<3*(1+p0/4%6) by lia),_,_,rfl,rfl,aD Xr,fun p hp=>q _ p _ _ _ _ (s1.trans (au.upd hp)) (s1.free hp) ae Xv (by lia) (by lia) (by lia)⟩
   ·refine⟨_,rfl,D,_,0,_,rfl,rfl, .of qc,av (j:=0) rfl,_,_,rfl,rfl,V5 _,_,_,rfl,rfl,(show(0:Int)<999999 by decide),_,_,rfl,rfl,?_⟩;have z0:1≤1+p0/8%999999∧1+p0/8%999999≤999999:=by lia
    obtain⟨m,DW,hm⟩:=int_at [if 3*(1+p0/8%999999)<999999 then 3*(1+p0/8%999999)else 999999,999999] (i:=p0/4%2) (by lia) (show p0/4%2<2 by lia);have Fm:1≤m∧m≤999999:=by
     simp only[List.mem_cons,List.not_mem_nil,or_false]at DW;rcases DW with rfl|rfl
     ·split<;>lia
     ·lia
    refine⟨_,rfl,_,_,rfl,rfl, .inl (Xy),_,_,rfl,aD Xr,fun p hp=>?_⟩;have kJ:=au.upd (o:= .lst [.int (if 3*(1+p0/8%999999)<999999 then 3*(1+p0/8%999999)else 999999), .int 999999]) hp _ _ qc;refine⟨_,rfl,D,_,0,_,rfl,rfl, .of kJ,av (j:=0) rfl,_,_,rfl,rfl,SH _,_,_,rfl,rfl,c2,p,_,_,_,rfl,rfl, .of ae,hm,?_⟩;have z3:0≤p3%m:=Int.emod_nonneg _ (by lia);have z4:p3%m<m:=Int.emod_lt_of_pos _ (by lia);exact⟨_,rfl,_,rfl,D,_,1,_,rfl,rfl, .of kJ,av (j:=1) rfl,_,_,rfl,rfl,cM,_,rfl,D,_,2,_,rfl,rfl, .of kJ,av (j:=2) rfl,_,_,rfl,rfl,cM,_,rfl,D,_,3,_,rfl,rfl, .of kJ,av (j:=3) rfl,_,rfl,_,_,rfl,rfl,(show(0:Int)<m by lia),_,_,rfl,rfl,aD Xr,fun p2 BQ=>q _ p2 _ _ _ _ ((s1.trans (au.upd hp)).trans (au.upd BQ)) ((s1.trans (au.upd hp)).free BQ) ae Xv (by lia) (by lia) (by lia)⟩
theorem cS:aJ ["_law_cell","_law_bank_here","_law_same","_law_found","_law_rest","_law_x","_law_y","_law_price"] ["_law_cell","_law_bank_here","_law_same"] (aq kF):=⟨rfl,rfl,rfl,by decide+kernel,rfl,by decide+kernel,by decide+kernel⟩
include T in
theorem vf{f:Addr}{fd:FuncData}(F:jY K "_law_near" "_law_near" kF f fd):aY P w K mg base (c8 P w) true 1 f fd ["_law_cell","_law_bank_here","_law_same"] uG:=by
 refine F.gL cS Xu (fun bY A outer s H vs Q E hr h hX=>?_)
 ·obtain⟨cell,same,b,zs,rfl,_⟩:=h;rfl
 ·obtain⟨cell,same,b,zs,rfl,hb,V7,hw,hn,WV,Hq,q⟩:=h;have Ld:(0:Int)<same+3:=Xx;refine⟨_,(Xj (W_ (3) cS.nd (@cA _ _ _ _ ai)) (Xj (W_ (4) cS.nd (pv 0)) (Xj (@cy _ _ _ _ _ _ _ _ hX.own Xw (@bB _ K _ _ _ (pv 1) (Xz)) (W' (5) cS.nd (Or.inl rfl)) (Xh (@cy _ _ _ _ _ _ _ _ hX.own Xw (@bB _ K _ _ _ (pv 1) (Xz)) (W' (6) cS.nd (Or.inl rfl)) (Xh (Xp (@aV _ _ _ _ _ _ _ _ tq (pv 5) (pv 6) (aX _)) (Xj (W_ (7) cS.nd (Xe cb (Xe dR (pv 4) aj) (Xe bM (pv 2) aj))) (Xn (Xp (@aV _ _ _ _ _ _ _ _ iH (Xe cb (pv 4) aj) aj (aX _)) (Xj (@a9 _ _ _ _ (Xg K PySem.F.plainAttrs_list PySem.F.slot_list_append PySem.F.type_list_append cn (pv 3) (W8 (@fv _ _ _ _ _ (W8 (pv 5) (W8 (pv 6) (W8 (Xb (k8 rfl) (by exact rfl) T.Y5 PyProof.Rows.Boot.«min» (W8 (pv 7) (W8 aj ai))) ai)))) ai)) (Xz)) (Xh (W_ (4) cS.nd (Xe dR (pv 4) (Xe bM (pv 2) aj))))) (Xh (Xp (@aV _ _ _ _ _ _ _ _ iH (Xe cb (pv 4) aj) aj (aX _)) (Xh (@a9 _ _ _ _ (Xg K PySem.F.plainAttrs_list PySem.F.slot_list_append PySem.F.type_list_append cn (pv 3) (W8 (@fv _ _ _ _ _ (W8 (pv 5) (W8 (pv 6) (W8 aj ai)))) ai)) (Xz))) aS))) (Xh (W_ (4) cS.nd (Xe dR (pv 4) aj))))) aS)) (by intro _;rfl))) (by intro _;rfl)) (Xh (@aN _ _ _ _ (pv 3)))))),?_⟩;refine⟨aD Xr,fun l hl=>?_⟩;refine⟨_,rfl,?_⟩;have WW:b≠l:=aB hb hl;refine⟨_,rfl,b,rfl,⟨_, .of (au.upd hl _ _ hb)⟩,?_⟩;refine cz (xs:=zs.map V.str) (fun i σ H'=>(∃(rest:Int)(u1 u2 u3:Option V),σ=[some (.int cell),some (.ref b),some (.int same),some (.ref l),some (.int rest),u1,u2,u3])∧au H H'∧∃xs fs,H' l=some (.lst xs)∧cV H' xs fs∧cL zs i 0 fs) ⟨⟨_,_,_,_,rfl⟩,au.upd hl,[],[],ae, .nil, .nil⟩ ?_ ?_ ?_
  ·rintro i σ H' _ ⟨_,s1,_⟩;exact .of (s1 _ _ hb)
  ·rintro i v σ H' hv ⟨⟨rest,u1,u2,u3,rfl⟩,s1,xs,fs,mS,T1,P1⟩;obtain⟨x,hx,rfl⟩:∃x,zs[i]?=some x∧v= .str x:=lp hv;have hi:i<zs.length:=(Xd hx).1;refine⟨_,rfl,b,rfl,⟨_, .of (s1 _ _ hb)⟩,?_⟩;refine cz (xs:=zs.map V.str) (fun j σ H'=>(∃(rest:Int)(u2 u3:Option V),σ=[some (.int cell),some (.ref b),some (.int same),some (.ref l),some (.int rest),some (.str x),u2,u3])∧au H H'∧∃xs fs,H' l=some (.lst xs)∧cV H' xs fs∧cL zs i j fs) ⟨⟨_,_,_,rfl⟩,s1,xs,fs,mS,T1,P1⟩ ?_ ?_ ?_
   ·rintro j σ H' _ ⟨_,s1,_⟩;exact .of (s1 _ _ hb)
   ·clear s1 mS T1 P1 xs fs u1 u2 u3 rest H';rintro j v σ H' hv ⟨⟨rest,u2,u3,rfl⟩,s1,xs,fs,mS,T1,P1⟩;obtain⟨y,hy,rfl⟩:∃y,zs[j]?=some y∧v= .str y:=lp hv;have B1:xs.length<1000:=by
     have h1:=P1.ue;have h2:i*(zs.length-1)≤8*7:=Nat.mul_le_mul Xs (Xx);have h3:j<zs.length:=(Xd hy).1;have h4:=T1.1;omega
    refine⟨_,rfl,_,rfl,rfl,_,rfl,?_⟩;refine bu (fun h=>?_) (fun h=>?_)
    rotate_left
    ·exact⟨⟨_,_,_,rfl⟩,s1,xs,fs,mS,T1,P1.skip⟩
    have fj:¬x=y:=by simpa using h
    refine⟨_,rfl,_,_,rfl,rfl,⟨Xy,Xy⟩,_,rfl,_,_,rfl,rfl,_,_,rfl,rfl,Ld,?_⟩;have p0:0≤rest/3%(same+3):=Int.emod_nonneg _ (Xx);have add:∀(t:Addr)(ht:H' t=none)(pr:Int),0≤pr→pr≤999999→au H (upd (upd H' t (.tup [.str x, .str y, .int pr])) l (.lst (xs++[.ref t])))∧∃GI GJ,upd (upd H' t (.tup [.str x, .str y, .int pr])) l (.lst (xs++[.ref t])) l=some (.lst GI)∧cV (upd (upd H' t (.tup [.str x, .str y, .int pr])) l (.lst (xs++[.ref t]))) GI GJ∧cL zs i (j+1) GJ:=fun t ht pr h0 h1=>by
     refine⟨(s1.trans (au.upd ht)).eQ hl,_,fs++[(x,y,pr)],ae,?_,P1.add hn hw hx hy fj h0 h1⟩;have T2:cV (upd H' t (.tup (HU (x,y,pr)))) (xs++[.ref t]) (fs++[(x,y,pr)]):=(T1.same (au.upd ht)).snoc ae;exact T2.cw (eV.lst (au.upd ht _ _ mS))
    refine⟨fun σ H2=>(∃(rest:Int)(u3:Option V),σ=[some (.int cell),some (.ref b),some (.int same),some (.ref l),some (.int rest),some (.str x),some (.str y),u3])∧au H H2∧∃xs fs,H2 l=some (.lst xs)∧cV H2 xs fs∧cL zs i (j+1) fs,?_,?_⟩
    ·refine⟨_,rfl,_,_,rfl,rfl,(show(0:Int)<3 by decide),rfl,_,rfl,?_⟩;refine bu (fun _=>?_) (fun _=>?_)
     ·refine⟨_,rfl, .inl ⟨rfl,_, .of mS⟩,_,rfl,_,rfl,_,rfl,_,_,rfl,aD Xr,fun t ht=>⟨l,xs,_,rfl,rfl,au.upd ht _ _ mS,a_ Xs,?_⟩⟩;obtain⟨a1,a2⟩:=add t ht (if 999999<rest/3%(same+3)then 999999 else rest/3%(same+3)) (by split<;>omega) (by split<;>omega);exact⟨_,rfl,_,rfl,_,_,rfl,rfl,_,_,rfl,rfl,⟨Ld,Xx⟩,⟨_,_,rfl⟩,a1,a2⟩
     ·refine⟨_,rfl,_,_,rfl,rfl,(show(0:Int)<9 by decide),rfl,_,rfl,?_⟩;refine bu (fun _=>?_) (fun _=>?_)
      ·refine⟨_,rfl, .inl ⟨rfl,_, .of mS⟩,_,rfl,_,rfl,aD Xr,fun t ht=>⟨l,xs,_,rfl,rfl,au.upd ht _ _ mS,a_ Xs,?_⟩⟩;obtain⟨a1,a2⟩:=add t ht 999999 (Xy) (Xy);exact⟨⟨_,_,rfl⟩,a1,a2⟩
      ·exact⟨⟨_,_,rfl⟩,s1,xs,fs,mS,T1,P1.skip⟩
    rintro σ H2 ⟨⟨GK,u4,rfl⟩,s2,GI,GJ,B4,T2,P2⟩;exact⟨_,rfl,_,_,rfl,rfl,⟨Xy,Xy⟩,⟨_,_,_,rfl⟩,s2,GI,GJ,B4,T2,P2⟩
   ·rintro σ H2 ⟨⟨GK,u4,u5,rfl⟩,s2,GI,GJ,B4,T2,P2⟩;rw[List.length_map]at P2;exact⟨⟨_,_,_,_,rfl⟩,s2,GI,GJ,B4,T2,P2.row hi⟩
  ·rintro σ H2 ⟨⟨GK,u4,u5,u6,rfl⟩,s2,GI,GJ,B4,T2,P2⟩;rw[List.length_map]at P2;exact⟨_,rfl,q H2 l GI GJ s2 hl B4 T2 (P2.good V7)⟩
theorem g9:aJ ["_law_x","_law_y","_law_same","_law_near_here","_law_old","_law_new","_law_price"] ["_law_x","_law_y","_law_same","_law_near_here"] (aq kG):=⟨rfl,rfl,rfl,by decide+kernel,rfl,by decide+kernel,by decide+kernel⟩
include T in
theorem vh{f:Addr}{fd:FuncData}(F:jY K "_law_pair" "_law_pair" kG f fd):aY P w K mg base (c8 P w) true 1 f fd ["_law_x","_law_y","_law_same","_law_near_here"] qO:=by
 refine F.gL g9 Xu (fun bY A outer s H vs Q E hr h hX=>?_)
 ·obtain⟨x,y,same,l,xs,fs,rfl,_⟩:=h;rfl
 ·obtain⟨x,y,same,l,xs,fs,rfl,hl,T1,q⟩:=h;refine⟨_,(Xj (Xp (@aV _ _ _ _ _ _ _ _ iH (pv 0) (pv 1) (aX _)) (Xh (@aN _ _ _ _ (pv 2))) aS) (Xj (@cy _ _ _ _ _ _ _ _ hX.own Xw (@bB _ K _ _ _ (pv 3) (Xz)) (@iI _ K _ _ _ (3) _ (by exact rfl) (@bI _ _ _ _ _ (W' (4) g9.nd (Or.inl rfl)) (@bI _ _ _ _ _ (W' (5) g9.nd (Or.inl rfl)) (@bI _ _ _ _ _ (W' (6) g9.nd (Or.inl rfl)) iG (Xz)) (Xz)) (Xz)) (Xz) (Xz) (Xz)) (Xh (Xp (@PW.pt _ _ _ (@pw_and _ _ _ _ _ _ _ (@aV _ _ _ _ _ _ _ _ iH (pv 4) (pv 0) (aX _)) (@pw_and1 _ _ _ _ (@aV _ _ _ _ _ _ _ _ iH (pv 5) (pv 1) (aX _))))) (Xh (@aN _ _ _ _ (Xe fu (pv 2) (pv 6)))) aS)) (by intro _;rfl)) (Xh (@aN _ _ _ _ jA)))),?_⟩;refine⟨_,rfl,_,rfl,rfl,_,rfl,?_⟩;refine bu (fun h=>?_) (fun h=>?_)
  ·have h:x=y:=by simpa using h
   rw[show du same fs x y=some same by simp[du,h]]at q;exact⟨_,rfl,q⟩
  have h:¬x=y:=by simpa using h
  refine⟨_,rfl,l,rfl,⟨_, .of hl⟩,?_⟩;refine cz (xs:=xs) (fun i σ H'=>(∃u1 u2 u3,σ=[some (.str x),some (.str y),some (.int same),some (.ref l),u1,u2,u3])∧H'=H∧∀f∈fs.take i,¬(f.1=x∧f.2.1=y)) ⟨⟨_,_,_,rfl⟩,rfl,XA⟩ ?_ ?_ ?_
  ·rintro i σ H' _ ⟨_,rfl,_⟩;exact .of hl
  ·rintro i v σ H' hv ⟨⟨u1,u2,u3,rfl⟩,rfl,AJ⟩;have hi:i<fs.length:=by rw[←T1.1];exact(Xd hv).1
   have hf:fs[i]?=some fs[i]:=by simp[hi]
   generalize fs[i]=f0 at hf;obtain⟨t,XC,vN⟩:=T1.2 i f0 hf;rw[hv]at XC;cases XC;obtain⟨x0,y0,p0⟩:=f0;refine⟨t,_,rfl, .of vN,rfl,_,_,rfl,_,_,rfl,_,_,rfl,rfl,?_⟩;have Ny:¬(x0=x∧y0=y)→∀f∈fs.take (i+1),¬(f.1=x∧f.2.1=y):=fun fj f SI=>by
    rw[List.take_succ,hf]at SI;rcases List.mem_append.mp SI with h|h
    ·exact AJ f h
    ·have h:f=(x0,y0,p0):=by simpa using h
     rw[h];exact fj
   refine⟨_,rfl,_,rfl,rfl,_,rfl,?_⟩;refine bu (fun hh=>?_) (fun hh=>?_)
   ·have X6:x0=x:=by simpa using hh
    refine⟨_,rfl,_,rfl,rfl,_,rfl,?_⟩;refine bu (fun hh=>?_) (fun hh=>?_)
    ·have mR:y0=y:=by simpa using hh
     have e:dA fs x y=some p0:=pQ hf AJ ⟨X6,mR⟩;rw[show du same fs x y=some (same-p0) by simp[du,h,e]]at q;exact⟨_,rfl,_,rfl,_,_,rfl,rfl,q⟩
    ·have mR:¬y0=y:=by simpa using hh
     exact⟨⟨_,_,_,rfl⟩,rfl,Ny fun z=>mR z.2⟩
   ·have X6:¬x0=x:=by simpa using hh
    refine ig ?_;exact⟨⟨_,_,_,rfl⟩,rfl,Ny fun z=>X6 z.1⟩
  ·rintro σ H' ⟨⟨u1,u2,u3,rfl⟩,rfl,AJ⟩;rw[T1.1,List.take_length]at AJ;have e:dA fs x y=none:=Cu AJ;rw[show du same fs x y=none by simp[du,h,e]]at q;exact q
variable(a8:bZ P w K mg base true 1 "_law_whole" ["_law_found"] qN)
theorem lX:aJ ["_law_found","_law_pair_here"] ["_law_found"] (aq jN):=⟨rfl,rfl,rfl,by decide+kernel,rfl,by decide+kernel,by decide+kernel⟩
include T a8 in
theorem sM{f:Addr}{fd:FuncData}(F:jY K "_law_pairs" "_law_pairs" jN f fd):aY P w K mg base (c8 P w) true 2 f fd ["_law_found"] oQ:=by
 refine F.gL lX Xu (fun bY A outer s H vs Q E hr h hX=>?_)
 ·obtain⟨a,us,ps,rfl,_⟩:=h;rfl
 ·obtain⟨a,us,ps,rfl,ha,P1,q⟩:=h;refine⟨_,(Xj (Xp (@dw _ _ _ _ (@cx _ _ _ (Xb (f_ K) (by exact rfl) T.dz PyProof.Rows.Boot.«isinstance» (W8 (pv 0) (W8 (@jB _ _ (.ty "list") _ _ (by exact rfl) T.jE PyProof.Rows.Boot.«list» Xw (Xy) (Xy)) ai))) (by intro _;rfl))) (Xh (@aN _ _ _ _ gR)) aS) (Xj (@cy _ _ _ _ _ _ _ _ hX.own Xw (@bB _ K _ _ _ (pv 0) (Xz)) (W' (1) lX.nd (Or.inl rfl)) (Xj (Xp (@PW.pt _ _ _ (@pw_or _ _ _ _ _ _ _ (@dw _ _ _ _ (@cx _ _ _ (Xb (f_ K) (by exact rfl) T.dz PyProof.Rows.Boot.«isinstance» (W8 (pv 1) (W8 (@jB _ _ (.ty "tuple") _ _ (by exact rfl) T.Ez PyProof.Rows.Boot.«tuple» Xw (Xy) (Xy)) ai))) (by intro _;rfl))) (@pw_or1 _ _ _ _ (@aV _ _ _ _ _ _ _ _ tq (Xb (aK K) (by exact rfl) T.dI PyProof.Rows.Boot.«len» (W8 (pv 1) ai)) aj (aX _))))) (Xh (@aN _ _ _ _ gR)) aS) (Xh (Xp (@PW.pt _ _ _ (@pw_or _ _ _ _ _ _ _ (@dw _ _ _ _ (@cx _ _ _ (W9 a8 aT (W8 (Xa (cX K) (pv 1) aj) ai)) (by intro _;rfl))) (@pw_or1 _ _ _ _ (@dw _ _ _ _ (@cx _ _ _ (W9 a8 aT (W8 (Xa (cX K) (pv 1) aj) ai)) (by intro _;rfl)))))) (Xh (@aN _ _ _ _ gR)) aS))) (by intro _;rfl)) (Xh (@aN _ _ _ _ gR)))),?_⟩;refine⟨_,rfl,_,_,_,true,_,rfl,rfl, .lst ha,rfl,_,rfl,?_⟩;refine ig ?_;refine⟨_,rfl,a,rfl,⟨_, .of ha⟩,?_⟩;refine cz (xs:=us) (fun i σ H'=>(∃u,σ=[some (.ref a),u])∧H'=H) ⟨⟨_,rfl⟩,rfl⟩ ?_ ?_ ?_
  ·rintro i σ H' _ ⟨_,rfl⟩;exact .of ha
  ·rintro i v σ H' hv ⟨⟨u,rfl⟩,rfl⟩;have hi:i<ps.length:=by rw[←P1.1];exact(Xd hv).1
   obtain⟨t,XC,vN⟩:=P1.O8 hi;rw[hv]at XC;cases XC;refine⟨_,rfl,_,_,_,true,_,rfl,rfl, .tup vN,rfl,_,rfl,?_⟩;refine ig ?_;refine⟨_,rfl,t,_,rfl, .inr (.of vN),rfl,_,rfl,?_⟩;refine bu (fun hh=>absurd hh Xr) (fun _=>?_);refine⟨_,rfl,t,_,0,_,rfl,rfl, .of vN,av (j:=0) rfl,_,rfl,_,rfl,?_⟩;refine ig ?_;refine⟨_,rfl,t,_,1,_,rfl,rfl, .of vN,av (j:=1) rfl,_,rfl,_,rfl,?_⟩;refine ig ?_;exact⟨⟨_,rfl⟩,rfl⟩
  ·rintro σ H' ⟨⟨u,rfl⟩,rfl⟩;exact q
theorem pU:aJ ["_law_found","_law_due","_law_k"] ["_law_found","_law_due"] (aq mq):=⟨rfl,rfl,rfl,by decide+kernel,rfl,by decide+kernel,by decide+kernel⟩
include T a8 in
theorem w_{f:Addr}{fd:FuncData}(F:jY K "_law_row" "_law_row" mq f fd):aY P w K mg base (c8 P w) true 2 f fd ["_law_found","_law_due"] YT:=by
 refine F.gL pU Xu (fun bY A outer s H vs Q E hr h hX=>?_)
 ·obtain⟨a,b,is,rfl,_⟩:=h;rfl
 ·obtain⟨a,b,is,rfl,ha,hb,hlen,q⟩:=h;have el:(is.map V.int).length=is.length:=List.length_map ..;refine⟨_,(Xj (Xp (@PW.pt _ _ _ (@pw_or _ _ _ _ _ _ _ (@dw _ _ _ _ (@cx _ _ _ (Xb (f_ K) (by exact rfl) T.dz PyProof.Rows.Boot.«isinstance» (W8 (pv 0) (W8 (@jB _ _ (.ty "list") _ _ (by exact rfl) T.jE PyProof.Rows.Boot.«list» Xw (Xy) (Xy)) ai))) (by intro _;rfl))) (@pw_or1 _ _ _ _ (@aV _ _ _ _ _ _ _ _ tq (Xb (aK K) (by exact rfl) T.dI PyProof.Rows.Boot.«len» (W8 (pv 0) ai)) (Xb (aK K) (by exact rfl) T.dI PyProof.Rows.Boot.«len» (W8 (pv 1) ai)) (aX _))))) (Xh (@aN _ _ _ _ gR)) aS) (Xj (@cy _ _ _ _ _ _ _ _ hX.own Xw (@fg _ _ _ _ _ _ (by exact rfl) T.gq (W8 (Xb (aK K) (by exact rfl) T.dI PyProof.Rows.Boot.«len» (W8 (pv 1) ai)) ai) (Xz)) (W' (2) pU.nd (Or.inl rfl)) (Xh (Xp (@PW.pt _ _ _ (@pw_or _ _ _ _ _ _ _ (@dw _ _ _ _ (@cx _ _ _ (W9 a8 aT (W8 (Xa (ar K) (pv 0) (pv 2)) ai)) (by intro _;rfl))) (@pw_or1 _ _ _ _ (@aV _ _ _ _ _ _ _ _ tq (Xa (ar K) (pv 0) (pv 2)) (Xa (ar K) (pv 1) (pv 2)) (aX _))))) (Xh (@aN _ _ _ _ gR)) aS)) (by intro _;rfl)) (Xh (@aN _ _ _ _ gR)))),?_⟩;refine⟨_,rfl,_,_,_,true,_,rfl,rfl, .lst ha,rfl,_,rfl,?_⟩;refine ig ?_;refine⟨_,rfl,a,_,rfl, .inl (.of ha),_,rfl,b,_,rfl, .inl (.of hb),rfl,_,rfl,?_⟩;refine bu (fun hh=>absurd hh Xr) (fun _=>?_);refine⟨_,rfl,b,_,rfl, .inl (.of hb),((is.map V.int).length:Int),rfl,Xx,Xx,?_⟩;refine kY (fun i σ H'=>(∃u,σ=[some (.ref a),some (.ref b),u])∧H'=H) ⟨⟨_,rfl⟩,rfl⟩ ?_ ?_
  ·rintro i σ H' hi ⟨⟨u,rfl⟩,rfl⟩;have hi:i<is.length:=Xx;have hx:(is.map V.int)[i]?=some (.int is[i]):=by simp[hi]
   generalize is[i]=v at hx;refine⟨_,rfl,_,rfl,a,_,_,_,rfl,rfl, .of ha,O6 hx,v,rfl,_,rfl,?_⟩;refine ig ?_;refine⟨_,rfl,_,rfl,a,_,_,_,rfl,rfl, .of ha,O6 hx,_,rfl,_,rfl,b,_,_,_,rfl,rfl, .of hb,O6 hx,rfl,_,rfl,?_⟩;refine bu (fun hh=>absurd hh Xr) (fun _=>?_);exact⟨⟨_,rfl⟩,rfl⟩
  ·rintro σ H' ⟨⟨u,rfl⟩,rfl⟩;exact q
variable(nK:lS P w K mg base true 5 "Terms" aQ ["self","same","out","into","least","part","near"] [] (qv aQ dD cI))
theorem lY:aJ ["_law_case","_law_n"] ["_law_case"] (aq jO):=⟨rfl,rfl,rfl,by decide+kernel,rfl,by decide+kernel,by decide+kernel⟩
include T nK in
theorem sN{f:Addr}{fd:FuncData}(F:jY K "_law_terms" "_law_terms" jO f fd):aY P w K mg base (c8 P w) true 7 f fd ["_law_case"] (oP aQ):=by
 refine F.gL lY Xu (fun bY A outer s H vs Q E hr h hX=>?_)
 ·obtain⟨a,c,f,g,m,l,us,most,rfl,_⟩:=h;rfl
 ·obtain⟨a,c,x1,x2,m,l,us,most,rfl,C1,ok,q⟩:=h;refine⟨_,(Xj (W_ (1) lY.nd (Xa (ar K) (pv 0) aj)) (Xh (@aN _ _ _ _ (@qu _ _ _ _ _ _ _ _ _ _ _ _ _ _ nK (hr.mono (Xy)) hX.pass (W8 (Xa (ar K) (pv 1) aj) (W8 (Xa (ar K) (pv 1) aj) (W8 (Xa (ar K) (pv 1) aj) (W8 (Xa (ar K) (pv 1) aj) (W8 aj (W8 (@hJ _ _ _ _ _ _ _ _ _ (eU K) (by exact rfl) T.jE PyProof.Rows.Boot.«list» (W8 (Xa (ar K) (pv 0) aj) ai) (Xy) (Xy) (Xz) (Xz)) ai)))))) (Xz) (Xy) (Xz) (Xz))))),?_⟩;have DX:=C1.nu;have vi:=C1.ca;refine⟨_,rfl,a,_,2,_,rfl,rfl, .of vi,av (j:=2) rfl,?_⟩;refine⟨_,rfl,m,_,0,_,rfl,rfl, .of DX,av (j:=0) rfl,_,rfl,m,_,1,_,rfl,rfl, .of DX,av (j:=1) rfl,_,rfl,m,_,2,_,rfl,rfl, .of DX,av (j:=2) rfl,_,rfl,m,_,3,_,rfl,rfl, .of DX,av (j:=3) rfl,_,rfl,a,_,3,_,rfl,rfl, .of vi,av (j:=3) rfl,l,us,rfl, .inl (.of C1.ne),fun h hh=>fun x dx hx Cv fj=>?_⟩;have s5:au (upd H h (.lst us)) (upd (upd (upd H h (.lst us)) dx (.own x)) x (.ins aQ dx [])):=(au.upd Cv).eQ hx;have s4:au H (upd H h (.lst us)):=au.upd hh;refine⟨x,dx,⟨c.same,c.out,c.into,c.least,50⟩, .ref h,us,c.fs,rfl,ae,by rw[af fj];exact ae, .inr ⟨h,rfl,s5 _ _ ae,C1.tr.same (s4.trans s5)⟩,ZF ok.good,?_⟩;have V8:ik ⟨c.same,c.out,c.into,c.least,50⟩=true:=by
   have:=ok.same;have:=ok.out;have:=ok.into;have:=ok.least;simp[ik,inR];omega
  rw[Xo V8,Xo ok.good];intro H6 l2 d sb T6 SJ WX;exact⟨rfl,q H6 x (s4.trans (SameBut.YU hx Cv sb)) ⟨_,dx,l2,d,us,T6,rfl,rfl,rfl,rfl⟩⟩
variable(iR:bZ P w K mg base true 1 "_law_pair" ["_law_x","_law_y","_law_same","_law_near_here"] qO)
theorem cT:aJ ["_law_case","_law_many","_law_x","_law_y","_law_each","_law_same","_law_least"] ["_law_case"] (aq kH):=⟨rfl,rfl,rfl,by decide+kernel,rfl,by decide+kernel,by decide+kernel⟩
include T iR in
theorem vj{f:Addr}{fd:FuncData}(F:jY K "_law_calm" "_law_calm" kH f fd):aY P w K mg base (c8 P w) true 2 f fd ["_law_case"] uZ:=by
 refine F.gL cT Xu (fun bY A outer s H vs Q E hr h hX=>?_)
 ·obtain⟨a,c,f,g,m,l,us,rfl,_⟩:=h;rfl
 ·obtain⟨a,c,x1,x2,m,l,us,rfl,C1,ok,q⟩:=h;refine⟨_,(Xn (W_ (1) cT.nd aj) (Xn (@cy _ _ _ _ _ _ _ _ hX.own Xw (@bB _ K _ _ _ (Xa (ar K) (pv 0) aj) (Xz)) (W' (2) cT.nd (Or.inl rfl)) (Xh (@cy _ _ _ _ _ _ _ _ hX.own Xw (@bB _ K _ _ _ (Xa (ar K) (pv 0) aj) (Xz)) (W' (3) cT.nd (Or.inl rfl)) (Xh (W_ (1) cT.nd (Xe bM (pv 1) (@hJ _ _ _ _ _ _ _ _ _ Af Xw T.FZ PyProof.Rows.Boot.«int» (W8 (@xA _ _ _ _ _ _ (@qp _ _ _ _ _ (W9 iR aT (W8 (pv 2) (W8 (pv 3) (W8 (Xa (ar K) (Xa (ar K) (pv 0) aj) aj) (W8 (Xa (ar K) (pv 0) aj) ai)))))) (by first|exact bH _ (Xy) (Xy)|rfl)) ai) (Xy) (Xy) (Xz) (Xz))))) (by intro _;rfl))) (by intro _;rfl)) (Xn (W_ (4) cT.nd (Xe bM (Xe dR (pv 1) aj) aj)) (Xn (W_ (5) cT.nd (Xb (k8 rfl) (by exact rfl) T.Y5 PyProof.Rows.Boot.«min» (W8 (Xa (ar K) (Xa (ar K) (pv 0) aj) aj) (W8 (Xe dR aj (pv 4)) ai)))) (Xn (W_ (6) cT.nd (Xb (Ae rfl) (by exact rfl) T.F0 PyProof.Rows.Boot.«max» (W8 (Xa (ar K) (Xa (ar K) (pv 0) aj) aj) (W8 (Xe bM (Xe oG (Xe fu (pv 4) aj) (pv 5)) aj) ai)))) (Xh (@aN _ _ _ _ (@cA _ _ _ _ (W8 (Xa (ar K) (pv 0) aj) (W8 (Xa (ar K) (pv 0) aj) (W8 (@cA _ _ _ _ (W8 (pv 5) (W8 (Xa (ar K) (Xa (ar K) (pv 0) aj) aj) (W8 (Xa (ar K) (Xa (ar K) (pv 0) aj) aj) (W8 (pv 6) ai))))) (W8 (Xa (ar K) (pv 0) aj) ai)))))))))))),?_⟩;have vi:=C1.ca;have DX:=C1.nu;have lx:(c.xs.map V.str).length=c.xs.length:=List.length_map ..;have ly:(c.ys.map V.str).length=c.ys.length:=List.length_map ..;refine⟨fun σ H1=>H1=H∧σ=[some (.ref a),some (.int 0),none,none,none,none,none],⟨rfl,rfl⟩,?_⟩;rintro σ H1 ⟨rfl,rfl⟩;refine⟨fun σ H2=>H2=H1∧∃u v,σ=[some (.ref a),some (.int (manyN c c.xs.length:Nat)),u,v,none,none,none],?_,?_⟩
  ·refine⟨_,rfl,a,_,0,_,rfl,rfl, .of vi,av (j:=0) rfl,x1,rfl,⟨_, .of C1.fi⟩,?_⟩;refine cz (xs:=c.xs.map V.str) (fun i σ H2=>H2=H1∧∃u v,σ=[some (.ref a),some (.int (manyN c i:Nat)),u,v,none,none,none]) ⟨rfl,_,_,rfl⟩ ?_ ?_ ?_
   ·rintro i σ H2 _ ⟨rfl,_⟩;exact .of C1.fi
   ·rintro i v σ H2 hv ⟨rfl,u1,u2,rfl⟩;obtain⟨wx,NR,rfl⟩:=lp hv;refine⟨_,rfl,a,_,1,_,rfl,rfl, .of vi,av (j:=1) rfl,x2,rfl,⟨_, .of C1.se⟩,?_⟩;refine cz (xs:=c.ys.map V.str) (fun j σ H3=>H3=H2∧∃v,σ=[some (.ref a),some (.int (manyN c i+DB c i j:Nat)),some (.str wx),v,none,none,none]) ⟨rfl,_,rfl⟩ ?_ ?_ ?_
    ·rintro j σ H3 _ ⟨rfl,_⟩;exact .of C1.se
    ·rintro j v σ H3 NX ⟨rfl,u3,rfl⟩;obtain⟨wy,Bw,rfl⟩:=lp NX;have Qn:c.pw (aL (i,j))=du c.same c.fs wx wy:=Case.pw_of (by rw[show(aL (i,j)).1=(i:Int)from rfl,qQ];exact NR) (by rw[show(aL (i,j)).2=(j:Int)from rfl,qQ];exact Bw);refine⟨_,rfl,_,rfl,_,rfl,_,rfl,a,_,2,_,rfl,rfl, .of vi,av (j:=2) rfl,m,_,0,_,rfl,rfl, .of DX,av (j:=0) rfl,_,rfl,a,_,3,_,rfl,rfl, .of vi,av (j:=3) rfl,wx,wy,c.same,l,us,c.fs,rfl,C1.ne,C1.tr, .inr ⟨_,rfl,_,_,rfl,rfl,rfl,some (.str wy),?_⟩⟩;rw[A3,Qn];cases du c.same c.fs wx wy<;>simp[bD,List.set]<;>omega
    ·rintro σ H3 ⟨rfl,u3,rfl⟩;rw[ly];exact⟨rfl,_,_,rfl⟩
   ·rintro σ H2 ⟨rfl,u1,u2,rfl⟩;rw[lx];exact⟨rfl,_,_,rfl⟩
  rintro σ H1 ⟨rfl,u,v,rfl⟩;have SK:manyN c c.xs.length≤3600:=by
   have:=Z' c c.xs.length;have h2:=Nat.mul_le_mul ok.x ok.y;omega
  have ee:((manyN c c.xs.length:Nat):Int)/21+1=(bJ c:Int):=by unfold bJ;omega
  have he:(1:Int)≤bJ c∧(bJ c:Int)≤172:=by unfold bJ;omega
  refine⟨fun σ H2=>H2=H1∧σ=[some (.ref a),some (.int (manyN c c.xs.length:Nat)),u,v,some (.int (bJ c)),none,none],⟨_,rfl,_,_,rfl,rfl,⟨Xy,Xy⟩,_,_,rfl,rfl,rfl,by rw[ee];rfl⟩,?_⟩;rintro σ H1 ⟨rfl,rfl⟩;have es:(if 999999/(bJ c:Int)<c.same then 999999/(bJ c:Int)else c.same)=dU c:=by unfold dU;split<;>omega
  refine⟨fun σ H2=>H2=H1∧σ=[some (.ref a),some (.int (manyN c c.xs.length:Nat)),u,v,some (.int (bJ c)),some (.int (dU c)),none],⟨_,rfl,a,_,2,_,rfl,rfl, .of vi,av (j:=2) rfl,m,_,0,_,rfl,rfl, .of DX,av (j:=0) rfl,_,rfl,_,_,rfl,rfl,⟨Xx,Xx⟩,_,_,rfl,rfl,by rw[es];rfl⟩,?_⟩;rintro σ H1 ⟨rfl,rfl⟩;have s1:1≤dU c∧dU c≤999999:=by
   have:=(Ym ok Xs).same;exact this
  have el:(if ((bJ c:Int)-1)*dU c+1>c.least then((bJ c:Int)-1)*dU c+1 else c.least)=(dW c).least:=by show _=max c.least _;split<;>omega
  refine⟨fun σ H2=>H2=H1∧σ=[some (.ref a),some (.int (manyN c c.xs.length:Nat)),u,v,some (.int (bJ c)),some (.int (dU c)),some (.int (dW c).least)],⟨_,rfl,a,_,2,_,rfl,rfl, .of vi,av (j:=2) rfl,m,_,3,_,rfl,rfl, .of DX,av (j:=3) rfl,_,rfl,_,_,rfl,rfl,_,rfl,_,_,rfl,rfl, .inl ⟨Xx,Xx⟩,_,_,rfl,rfl,_,_,rfl,rfl,by rw[el];rfl⟩,?_⟩;rintro σ H1 ⟨rfl,rfl⟩;refine⟨_,rfl,a,_,0,_,rfl,rfl, .of vi,av (j:=0) rfl,_,rfl,a,_,1,_,rfl,rfl, .of vi,av (j:=1) rfl,_,rfl,_,rfl,a,_,2,_,rfl,rfl, .of vi,av (j:=2) rfl,m,_,1,_,rfl,rfl, .of DX,av (j:=1) rfl,_,rfl,a,_,2,_,rfl,rfl, .of vi,av (j:=2) rfl,m,_,2,_,rfl,rfl, .of DX,av (j:=2) rfl,_,rfl,aD Xr,fun m' Av=>?_⟩;have sm:=au.upd (o:= .lst [.int (dU c), .int c.out, .int c.into, .int (dW c).least]) Av;have QG:=sm _ _ vi;refine⟨_,rfl,a,_,3,_,rfl,rfl, .of QG,av (j:=3) rfl,aD Xr,fun b hb=>?_⟩;have sb:=au.upd (o:= .lst [.ref x1, .ref x2, .ref m', .ref l]) hb;have sA:=sm.trans sb;exact q _ b m' sA (sm.free hb) ae ⟨ae,sA _ _ C1.fi,sA _ _ C1.se,sb _ _ ae,sA _ _ C1.ne,C1.tr.same sA⟩
variable(fN:bZ P w K mg base true 2 "_law_pairs" ["_law_found"] oQ)
theorem j6:aJ ["_law_found","_law_told"] ["_law_found"] (aq fI):=⟨rfl,rfl,rfl,by decide+kernel,rfl,by decide+kernel,by decide+kernel⟩
include T Fc a8 fN in
theorem qh{f:Addr}{fd:FuncData}(F:jY K "_law_finding" "_law_finding" fI f fd):aY P w K mg base (c8 P w) true 3 f fd ["_law_found"] (rz aA):=by
 refine F.gL j6 Xu (fun bY A outer s H vs Q E hr h hX=>?_)
 ·obtain⟨y,P,d,dy,wy,rw,pr,mf,i7,rfl,_⟩:=h;rfl
 ·obtain⟨y,P,d,dy,wy,jy,pr,mf,i7,rfl,F,hl,fj,q⟩:=h;have hu:=hr.units;have NH:(A.deeper (PyProof.Rows.envOfC "_law_finding" (aq fI) s.heap.objs.size f bY)).units<cLine:=Xx;refine⟨_,(Xj (Xp (@PW.pt _ _ _ (@pw_or _ _ _ _ _ _ _ (@dw _ _ _ _ (@cx _ _ _ (W9 a8 aT (W8 (Xc K (pv 0)) ai)) (by intro _;rfl))) (@pw_or _ _ _ _ _ _ _ (@dw _ _ _ _ (@cx _ _ _ (W9 fN aT (W8 (Xc K (pv 0)) ai)) (by intro _;rfl))) (@pw_or1 _ _ _ _ (@dw _ _ _ _ (@cx _ _ _ (W9 fN aT (W8 (Xc K (pv 0)) ai)) (by intro _;rfl))))))) (Xh (@aN _ _ _ _ gR)) aS) (Xj (Xp (@PW.pt _ _ _ (@pw_or _ _ _ _ _ _ _ (@dw _ _ _ _ (@cx _ _ _ (Xb (f_ K) (by exact rfl) T.dz PyProof.Rows.Boot.«isinstance» (W8 (Xc K (pv 0)) (W8 (@jB _ _ (.ty "list") _ _ (by exact rfl) T.jE PyProof.Rows.Boot.«list» Xw (Xy) (Xy)) ai))) (by intro _;rfl))) (@pw_or _ _ _ _ _ _ _ (@aV _ _ _ _ _ _ _ _ tq (Xb (aK K) (by exact rfl) T.dI PyProof.Rows.Boot.«len» (W8 (Xc K (pv 0)) ai)) (Xb (aK K) (by exact rfl) T.dI PyProof.Rows.Boot.«len» (W8 (Xc K (pv 0)) ai)) (aX _)) (@pw_or1 _ _ _ _ (@aV _ _ _ _ _ _ _ _ (wt K NH) (Xc K (pv 0)) (@cA _ _ _ _ ai) (aX _)))))) (Xh (@aN _ _ _ _ gR)) aS) (Xj (@cy _ _ _ _ _ _ _ _ hX.own Xw (@bB _ K _ _ _ (Xc K (pv 0)) (Xz)) (W' (1) j6.nd (Or.inl rfl)) (Xh (Xp (@dw _ _ _ _ (@cx _ _ _ (W9 a8 aT (W8 (pv 1) ai)) (by intro _;rfl))) (Xh (@aN _ _ _ _ gR)) aS)) (by intro _;rfl)) (Xh (@aN _ _ _ _ gR))))),?_⟩;have h1:mf≠[]:=fun z=>fj (List.length_eq_zero_iff.mp (by rw[←F.pw.1,z];rfl))
  refine⟨_,rfl,y,aA,dy,_,_,rfl,F.ob,Fc.cl,Fc.worth,jm d.worth wy jy pr,_,rfl,_,rfl,?_⟩;refine ig ?_;refine⟨_,rfl,y,aA,dy,_,_,rfl,F.ob,Fc.cl,Fc.way,uQ d.worth wy jy pr,wy,mf,d.way,rfl,F.hw,F.pw,_,rfl,?_⟩;refine ig ?_;refine⟨_,rfl,y,aA,dy,_,_,rfl,F.ob,Fc.cl,Fc.pairs,nr d.worth wy jy pr,pr,i7,d.pairs,rfl,F.hp,F.pp,_,rfl,?_⟩;refine ig ?_;refine⟨_,rfl,y,aA,dy,_,_,rfl,F.ob,Fc.cl,Fc.row,uR d.worth wy jy pr,_,_,_,true,_,rfl,rfl, .lst F.hr,rfl,_,rfl,?_⟩;refine ig ?_;refine⟨_,rfl,y,aA,dy,_,_,rfl,F.ob,Fc.cl,Fc.row,uR d.worth wy jy pr,jy,_,rfl, .inl (.of F.hr),_,rfl,y,aA,dy,_,_,rfl,F.ob,Fc.cl,Fc.way,uQ d.worth wy jy pr,wy,_,rfl, .inl (.of F.hw),rfl,_,rfl,?_⟩;have h2:(d.row.map V.int).length=mf.length:=by rw[List.length_map,hl,F.pw.1]
  rw[h2];refine bu (fun hh=>absurd hh Xr) (fun _=>?_);refine⟨_,rfl,y,aA,dy,_,_,rfl,F.ob,Fc.cl,Fc.way,uQ d.worth wy jy pr,aD Xr,fun e he=>⟨wy,e,mf,[],fun _=>true,rfl,rfl, .of (au.upd he _ _ F.hw), .of ae,(fun j x y _ h=>by simp at h),_,rfl,?_⟩⟩;refine bu (fun hh=>absurd hh (by simpa using h1)) (fun _=>?_);have s1:=au.upd (o:= .lst []) he;generalize upd H e (.lst [])=H1 at s1;refine⟨_,rfl,y,aA,dy,_,_,rfl,s1 _ _ F.ob,Fc.cl,Fc.row,uR d.worth wy jy pr,jy,rfl,⟨_, .of (s1 _ _ F.hr)⟩,?_⟩;refine cz (xs:=d.row.map V.int) (fun i σ H'=>(∃u,σ=[some (.ref y),u])∧H'=H1) ⟨⟨_,rfl⟩,rfl⟩ ?_ ?_ ?_
  ·rintro i σ H' _ ⟨_,rfl⟩;exact .of (s1 _ _ F.hr)
  ·rintro i v σ H' hv ⟨⟨u,rfl⟩,rfl⟩;rw[List.getElem?_map]at hv;obtain⟨z,_,rfl⟩:=Option.map_eq_some_iff.mp hv;refine⟨_,rfl,_,rfl,_,rfl,?_⟩;refine ig ?_;exact⟨⟨_,rfl⟩,rfl⟩
  ·rintro σ H' ⟨⟨u,rfl⟩,rfl⟩;exact q _ s1
variable(lH:bZ P w K mg base true 8 "compare" ["first","second","terms"] (uY aQ aA jn))
variable(g_:bZ P w K mg base true 7 "_law_terms" ["_law_case"] (oP aQ))
theorem sO:aJ ["_law_case"] ["_law_case"] (aq jP):=⟨rfl,rfl,rfl,by decide+kernel,rfl,by decide+kernel,by decide+kernel⟩
include T lH g_ in
theorem sP{f:Addr}{fd:FuncData}(F:jY K "_law_asked" "_law_asked" jP f fd):aY P w K mg base (c8 P w) true 9 f fd ["_law_case"] (u0 aA):=by
 refine F.gL sO Xu (fun bY A outer s H vs Q E hr h hX=>?_)
 ·obtain⟨a,c,f,g,m,l,us,most,rfl,_⟩:=h;rfl
 ·obtain⟨a,c,x1,x2,m,l,us,most,rfl,C1,ok,hm,ue,q⟩:=h;refine⟨_,(Xh (@aN _ _ _ _ (W9 lH aT (W8 (@hJ _ _ _ _ _ _ _ _ _ (eU K) (by exact rfl) T.jE PyProof.Rows.Boot.«list» (W8 (Xa (ar K) (pv 0) aj) ai) (Xy) (Xy) (Xz) (Xz)) (W8 (@hJ _ _ _ _ _ _ _ _ _ (eU K) (by exact rfl) T.jE PyProof.Rows.Boot.«list» (W8 (Xa (ar K) (pv 0) aj) ai) (Xy) (Xy) (Xz) (Xz)) (W8 (W9 g_ aT (W8 (pv 0) ai)) ai)))))),?_⟩;have vi:=C1.ca;refine⟨_,rfl,a,_,0,_,rfl,rfl, .of vi,av (j:=0) rfl,x1,_,rfl, .inl (.of C1.fi),fun y1 P6=>?_⟩;have s1:=au.upd (o:= .lst (c.xs.map V.str)) P6;have QH:=s1 _ _ vi;refine⟨_,rfl,a,_,1,_,rfl,rfl, .of QH,av (j:=1) rfl,x2,_,rfl, .inl (.of (s1 _ _ C1.se)),fun y2 Nv=>?_⟩;have s2:=s1.trans (au.upd (o:= .lst (c.ys.map V.str)) Nv);refine⟨_,rfl,a,c,x1,x2,m,l,us,most,rfl,C1.keep s2,ok,fun H3 t s3 TF=>?_⟩;have J5:=s2.trans s3;have WY:=ok.x;have WZ:=ok.y;refine⟨y1,y2,t,c,rfl,s3 _ _ (au.upd Nv _ _ ae),s3 _ _ ae,TF,Xx,Xx,fun es TD H4 r vs s4 hr h4 FL=>?_,fun ds f2 RC hl H4 s4=>?_⟩
  ·exact q es TD H4 r vs (J5.trans s4) (J5.free hr) h4 (FL.keep (fun _ _ _ h=>h) (fun _ _ h=>h) fun b hb=>trivial)
  ·have:=ue _ _ RC;omega
variable(iS:bZ P w K mg base true 1 "_law_bank" ["_law_cell","_law_other","_law_many"] uF)
variable(fO:bZ P w K mg base true 2 "_law_numbers" ["_law_script","_law_spot"] (l_ K))
variable(iT:bZ P w K mg base true 1 "_law_near" ["_law_cell","_law_bank_here","_law_same"] uG)
variable(iU:bZ P w K mg base true 2 "_law_book" ["_law_script","_law_cell","_law_spot","_law_many","_law_bank_here"] (uH K))
variable(iV:bZ P w K mg base true 2 "_law_calm" ["_law_case"] uZ)
variable(hG:bZ P w K mg base true 9 "_law_asked" ["_law_case"] (u0 aA))
variable(fQ:bZ P w K mg base true 3 "_law_finding" ["_law_found"] (rz aA))
variable(jT:bZ P w K mg base true 2 "_law_row" ["_law_found","_law_due"] YT)
theorem gi:aJ ["_law_script","_law_bank_here","_law_numbers_here","_law_near_here","_law_book_here","_law_letters","_law_case","_law_n","_law_told","_law_due","_law_one"] ["_law_script"] (aq kI):=⟨rfl,rfl,rfl,by decide+kernel,rfl,by decide+kernel,by decide+kernel⟩
include T Fc bC a8 iS fO iT iU iV hG fQ jT in
theorem Jy{f:Addr}{fd:FuncData}(F:jY K "law" "law" kI f fd):aY P w K mg base (c8 P w) true 10 f fd ["_law_script"] (YB K):=by
 refine F.gL gi Xu (fun bY A outer s H vs Q E hr h hX=>?_)
 ·obtain⟨a,ns,rfl,_⟩:=h;rfl
 ·obtain⟨a,ns,rfl,hS,hlen,q⟩:=h;have hu:=hr.units;have hu:(A.deeper (PyProof.Rows.envOfC "law" (aq kI) s.heap.objs.size f bY)).units+1<cLine:=Xx;have NH:=Nat.lt_of_succ_lt hu;refine⟨_,(Xn (@aH _ _ (1) _ _ _ _ gi.nd Xw (Or.inr rfl) (W9 iS aT (W8 (W9 bC aT (W8 (pv 0) (W8 aj ai))) (W8 (W9 bC aT (W8 (pv 0) (W8 aj ai))) (W8 (Xe bM aj (Xe cb (W9 bC aT (W8 (pv 0) (W8 aj ai))) aj)) ai)))) (Xz) (by exact .inl rfl)) (Xn (W_ (2) gi.nd (W9 fO aT (W8 (pv 0) (W8 aj ai)))) (Xn (W_ (3) gi.nd (W9 iT aT (W8 (W9 bC aT (W8 (pv 0) (W8 aj ai))) (W8 (pv 1) (W8 (Xa (ar K) (pv 2) aj) ai))))) (Xn (W_ (4) gi.nd (W9 iU aT (W8 (pv 0) (W8 (W9 bC aT (W8 (pv 0) (W8 aj ai))) (W8 aj (W8 (Xe bM aj (Xe cb (W9 bC aT (W8 (pv 0) (W8 aj ai))) aj)) (W8 (pv 1) ai))))))) (Xn (Xp (@aV _ _ _ _ _ _ _ _ iH (Xe cb (W9 bC aT (W8 (pv 0) (W8 aj ai))) aj) aj (aX _)) (Xn (W_ (3) gi.nd (@cA _ _ _ _ ai)) (Xn (@aH _ _ (5) _ _ _ _ gi.nd Xw (Or.inr rfl) c7 (Xz) (by exact .inl rfl)) (Xh (@jC _ _ _ _ _ _ _ _ _ _ _ _ _ _ _ (4) _ _ (by exact rfl) gi.nd Xw (by exact rfl) (show ba ["_law_script","_law_bank_here","_law_numbers_here","_law_near_here","_law_book_here","_law_letters","_law_case","_law_n","_law_told","_law_due","_law_one"] (aq kI) _ ["_law_k"] [1,5] ["_law_bank_here","_law_letters"]from⟨rfl,by decide+kernel,by decide+kernel,by decide+kernel,rfl,rfl,by decide+kernel,by decide+kernel,by decide+kernel⟩) (@fg _ _ _ _ _ _ (by exact rfl) T.gq (W8 (Xe bM aj (Xe cb (W9 bC aT (W8 (pv 0) (W8 aj ai))) aj)) ai) (Xz)) (fun _ _ _ _ _=>(W' (0) (show(["_law_k","_law_bank_here","_law_letters"]:List Str).Nodup by decide+kernel) (Or.inl rfl))) (fun _ _ _ _ _=>fA) (fun _ _ _ _ _=>(Xe ic (Xe ic (@kn _ _ _ _ _ _ _ _ _ _ uw (Xa (ar K) (pv 1) aj) qt (@lb _ _ _ aj)) (Xa uh (pv 2) (Xe dR (pv 0) aj))) (Xa uh (pv 2) (Xe cb (pv 0) aj)))) (Xz) (by intro _;rfl))))) aS) (Xn (W_ (6) gi.nd (W9 iV aT (W8 (@cA _ _ _ _ (W8 (pv 4) (W8 (@hJ _ _ _ _ _ _ _ _ _ (eU K) (by exact rfl) T.jE PyProof.Rows.Boot.«list» (W8 (pv 4) ai) (Xy) (Xy) (Xz) (Xz)) (W8 (pv 2) (W8 (pv 3) ai))))) ai))) (Xn (@aH _ _ (7) _ _ _ _ gi.nd Xw (Or.inr rfl) (Xa (ar K) (pv 6) aj) (Xz) (by exact .inl rfl)) (Xn (@BD _ _ _ _ _ _ (Xb (k8 rfl) (by exact rfl) T.Y5 PyProof.Rows.Boot.«min» (W8 (Xa (ar K) (pv 7) aj) (W8 (Xe oG (Xb (aK K) (by exact rfl) T.dI PyProof.Rows.Boot.«len» (W8 (pv 4) ai)) (Xa (ar K) (pv 7) aj)) ai))) (@BC _ _ _ _ _ _ _ (pv 7) aj set_list (by intro _;rfl)) (Xz) (Xz) (Xz)) (Xn (W_ (8) gi.nd (W9 hG aT (W8 (pv 6) ai))) (Xn (Xp (@PW.pt _ _ _ (@pw_or _ _ _ _ _ _ _ (@dw _ _ _ _ (@cx _ _ _ (Xb (f_ K) (by exact rfl) T.dz PyProof.Rows.Boot.«isinstance» (W8 (pv 8) (W8 (@jB _ _ (.ty "list") _ _ (by exact rfl) T.jE PyProof.Rows.Boot.«list» Xw (Xy) (Xy)) ai))) (by intro _;rfl))) (@pw_or _ _ _ _ _ _ _ (@aV _ _ _ _ _ _ _ _ qF (Xb (aK K) (by exact rfl) T.dI PyProof.Rows.Boot.«len» (W8 (pv 8) ai)) aj (aX _)) (@pw_or1 _ _ _ _ (@dw _ _ _ _ (@cx _ _ _ (W9 fQ aT (W8 (Xa (ar K) (pv 8) aj) ai)) (by intro _;rfl))))))) (Xh (@aN _ _ _ _ gR)) aS) (Xn (@jC _ _ _ _ _ _ _ _ _ _ _ _ _ _ _ (9) _ _ (by exact rfl) gi.nd Xw (by exact rfl) (show ba ["_law_script","_law_bank_here","_law_numbers_here","_law_near_here","_law_book_here","_law_letters","_law_case","_law_n","_law_told","_law_due","_law_one"] (aq kI) _ ["_law_k"] [] []from⟨rfl,by decide+kernel,by decide+kernel,by decide+kernel,rfl,rfl,by decide+kernel,by decide+kernel,by decide+kernel⟩) (@fg _ _ _ _ _ _ (by exact rfl) T.gq (W8 (Xb (aK K) (by exact rfl) T.dI PyProof.Rows.Boot.«len» (W8 (pv 4) ai)) ai) (Xz)) (fun _ _ _ _ _=>(W' (0) (show(["_law_k"]:List Str).Nodup by decide+kernel) (Or.inl rfl))) (fun _ _ _ _ _=>fA) (fun _ _ _ _ _=>(@fv _ _ _ _ _ (W8 (pv 0) (W8 (pv 0) ai)))) (Xz) (by intro _;rfl)) (Xn (Xp (@PW.pt _ _ _ (@pw_or _ _ _ _ _ _ _ (@aV _ _ _ _ _ _ _ _ tq (Xc K (Xa (ar K) (pv 8) aj)) (Xe oG (Xa (ar K) (pv 7) aj) (Xb (aK K) (by exact rfl) T.dI PyProof.Rows.Boot.«len» (W8 (pv 4) ai))) (aX _)) (@pw_or _ _ _ _ _ _ _ (@aV _ _ _ _ _ _ _ _ (rA K hu) (Xc K (Xa (ar K) (pv 8) aj)) (pv 9) (aX _)) (@pw_or1 _ _ _ _ (@aV _ _ _ _ _ _ _ _ (rA K hu) (Xc K (Xa (ar K) (pv 8) aj)) (pv 9) (aX _)))))) (Xh (@aN _ _ _ _ gR)) aS) (Xn (@cy _ _ _ _ _ _ _ _ hX.own Xw (@bB _ K _ _ _ (@kn _ _ _ _ _ _ _ _ _ _ (Cg K) (pv 8) (@lb _ _ _ aj) qt) (Xz)) (W' (10) gi.nd (Or.inl rfl)) (Xh (Xp (@PW.pt _ _ _ (@pw_or _ _ _ _ _ _ _ (@dw _ _ _ _ (@cx _ _ _ (W9 a8 aT (W8 (Xc K (pv 10)) ai)) (by intro _;rfl))) (@pw_or1 _ _ _ _ (@aV _ _ _ _ _ _ _ _ FG (Xc K (pv 10)) (Xc K (Xa (ar K) (pv 8) aj)) (aX _))))) (Xh (@aN _ _ _ _ gR)) aS)) (by intro _;rfl)) (Xh (@aN _ _ _ _ (W9 jT aT (W8 (Xc K (Xa (ar K) (pv 8) aj)) (W8 (@lh _ _ _ _ _ _ _ _ _ _ _ _ _ _ (by exact rfl) (show ba ["_law_script","_law_bank_here","_law_numbers_here","_law_near_here","_law_book_here","_law_letters","_law_case","_law_n","_law_told","_law_due","_law_one"] (aq kI) _ ["_law_k"] [7] ["_law_n"]from⟨rfl,by decide+kernel,by decide+kernel,by decide+kernel,rfl,rfl,by decide+kernel,by decide+kernel,by decide+kernel⟩) (@fg _ _ _ _ _ _ (by exact rfl) T.gq (W8 (Xb (aK K) (by exact rfl) T.dI PyProof.Rows.Boot.«len» (W8 (pv 4) ai)) ai) (Xz)) (fun _ _ _ _ _=>(W' (0) (show(["_law_k","_law_n"]:List Str).Nodup by decide+kernel) (Or.inl rfl))) (fun _ _ _ _ _=>fA) (fun _ _ _ _ _=>(Xe oG (Xa (ar K) (pv 1) aj) (Xe bM (pv 0) aj))) (by intro _;rfl)) ai)))))))))))))))))),?_⟩;refine⟨fun σ H1=>∃(b:Addr)(zs:List Str),σ=[some (.ref a),some (.ref b),none,none,none,none,none,none,none,none,none]∧au H H1∧H1 b=some (.lst (zs.map V.str))∧(1≤zs.length∧zs.length≤5)∧(∀z∈zs,p6 z=true)∧zs.Nodup,?_,?_⟩
  ·exact⟨_,rfl,a,ns,0,rfl,hS,Xy,_,rfl,a,ns,1,rfl,hS,Xy,_,rfl,a,ns,2,rfl,hS,Xy,_,_,rfl,rfl,(show(0:Int)<5 by decide),_,_,rfl,rfl,_,_,_,rfl,Xx,Xx,fun H' b zs s1 hb mR hz hw hn=>⟨b,zs,rfl,s1,mR,Xx,hw,hn⟩⟩
  rintro σ H1 ⟨b,zs,rfl,s1,mR,hz,hw,hn⟩;have SM:=s1.seq hS;refine⟨fun σ H4=>∃(n:Addr)(sa ou iN le:Int),σ=[some (.ref a),some (.ref b),some (.ref n),none,none,none,none,none,none,none,none]∧au H1 H4∧H4 n=some (.lst [.int sa, .int ou, .int iN, .int le])∧(1≤sa∧sa≤999999)∧(0≤ou∧ou≤999999)∧(0≤iN∧iN≤999999)∧(1≤le∧le≤999999),?_,?_⟩
  ·exact⟨_,rfl,a,ns,5,rfl,SM,Xy,fun H4 D sa ou iN le s6 hD GH h1 h2 h3 h4=>⟨D,sa,ou,iN,le,rfl,s6,GH,h1,h2,h3,h4⟩⟩
  rintro σ H2 ⟨n,sa,ou,iN,le,rfl,s2,sg,h1,h2,h3,h4⟩;have SN:=s2.seq SM;have Dn:=s2 _ _ mR;refine⟨fun σ H3=>∃(l:Addr)(us:List V)(fs:List Form),σ=[some (.ref a),some (.ref b),some (.ref n),some (.ref l),none,none,none,none,none,none,none]∧au H2 H3∧H3 l=some (.lst us)∧cV H3 us fs∧br fs=true,?_,?_⟩
  ·exact⟨_,rfl,a,ns,9,rfl,SN,Xy,_,rfl,_,rfl,n,_,0,_,rfl,rfl, .of sg,av (j:=0) rfl,_,sa,b,zs,rfl,Dn,Xx,hw,hn,h1.1,h1.2,fun H6 l us fs s9 hl SJ T6 g6=>⟨l,us,fs,rfl,s9,SJ,T6,g6⟩⟩
  rintro σ H3 ⟨l,us,fs,rfl,s3,SO,T3,g3⟩;have NZ:=s3.seq SN;have Jo:=s3 _ _ Dn;have V9:=s3 _ _ sg;have W0:0≤cell ns 3%20∧cell ns 3%20<20:=⟨Int.emod_nonneg _ (Xx),Int.emod_lt_of_pos _ (Xx)⟩
  have W4:0≤cell ns 3%40∧cell ns 3%40<40:=⟨Int.emod_nonneg _ (Xx),Int.emod_lt_of_pos _ (Xx)⟩
  refine⟨fun σ H4=>∃(x:Addr)(xs:List Str),σ=[some (.ref a),some (.ref b),some (.ref n),some (.ref l),some (.ref x),none,none,none,none,none,none]∧au H3 H4∧H4 x=some (.lst (xs.map V.str))∧1≤xs.length∧xs.length≤40,?_,?_⟩
  ·exact⟨_,rfl,_,rfl,a,ns,10,rfl,NZ,Xy,_,rfl,a,ns,3,rfl,NZ,Xy,_,_,rfl,rfl,(show(0:Int)<20 by decide),_,_,rfl,rfl,_,rfl,a,b,ns,zs,_,16,_,rfl,NZ,Jo,⟨hz.1,Xx⟩,Xy,Xx,Xx,fun H2 x xs s2 hx Gy hl m4=>⟨x,xs,rfl,s2,Gy,Xx,Xx⟩⟩
  rintro σ H4 ⟨x,xs,rfl,s4,SQ,SR,lV⟩;have SS:=s4.seq NZ;have V_:=s4 _ _ Jo;refine⟨fun σ H5=>∃(x l:Addr)(xs:List Str)(us:List V)(fs:List Form)(u:Option V),σ=[some (.ref a),some (.ref b),some (.ref n),some (.ref l),some (.ref x),u,none,none,none,none,none]∧au H4 H5∧H5 x=some (.lst (xs.map V.str))∧(1≤xs.length∧xs.length≤40)∧H5 l=some (.lst us)∧cV H5 us fs∧br fs=true,?_,?_⟩
  ·refine⟨_,rfl,a,ns,12,rfl,SS,Xy,_,_,rfl,rfl,(show(0:Int)<3 by decide),rfl,_,rfl,?_⟩;refine bu (fun _=>?_) (fun _=>⟨x,l,xs,us,fs,_,rfl, .refl _,SQ,⟨SR,lV⟩,s4 _ _ SO,T3.same s4,g3⟩);refine⟨fun σ H5=>∃l,σ=[some (.ref a),some (.ref b),some (.ref n),some (.ref l),some (.ref x),none,none,none,none,none,none]∧au H4 H5∧H5 l=some (.lst []),⟨aD Xr,fun l hl=>⟨l,rfl,au.upd hl,ae⟩⟩,?_⟩;rintro σ H5 ⟨l,rfl,s5,QI⟩;refine⟨fun σ H6=>σ=[some (.ref a),some (.ref b),some (.ref n),some (.ref l),some (.ref x),some (.str F1),none,none,none,none,none]∧H6=H5,⟨rfl,rfl⟩,?_⟩;rintro σ H5 ⟨rfl,rfl⟩;have J1:=s5 _ _ V_;refine⟨_,rfl,a,ns,3,rfl,s5.seq SS,Xy,_,_,rfl,rfl,(show(0:Int)<40 by decide),_,_,rfl,rfl,_,rfl,Xx,Xx,fun D hD=>?_⟩;obtain⟨z0,e0⟩:∃z0,zs[0]?=some z0:=⟨zs[0],by simp[hz.1]⟩
   have w0:z0.length≤12:=by
    have:=hw z0 (Xi e0);exact E_ this
   have V1:=Z7;refine jD (fun i ys bo H'=>(∃u,bo=[u,some (.ref b),some (.str F1)])∧H' D=some (.lst ys)∧au H5 H'∧∃ws:List Str,ys=ws.map V.str∧ws.length=i) ⟨⟨_,rfl⟩,ae,au.upd hD,[],rfl,rfl⟩ ?_ ?_
   ·rintro i ys bo H' hi ⟨⟨u,rfl⟩,GL,s6,ws,rfl,hl⟩;have hi:i<40:=Xx;obtain⟨c1,e1⟩:=Yz (r:=(0+(i:Int))/7) (Xx) (Xx);obtain⟨c2,e2⟩:=Yz (r:=(0+(i:Int))%7) (Xx) (Xx);have b1:=oM z0 none (some 6);refine kr ?_;refine⟨_,rfl,b,_,0,_,rfl,rfl, .of (s6 _ _ J1),av (j:=0) (by rw[List.getElem?_map,e0];rfl),_,rfl,z0,rfl,aD Xs,_,rfl,_,rfl,_,_,rfl,rfl,⟨Xy,Xy⟩,_,_,_,rfl,rfl,aD Xs,e1,_,_,rfl,rfl,aD (show(Txt.slice z0 none (some 6)).length+1≤100000 by omega),_,rfl,_,rfl,_,_,rfl,rfl,(show(0:Int)<7 by decide),_,_,_,rfl,rfl,aD Xs,e2,_,_,rfl,rfl,?_,GL,a_ (by rw[List.length_map];omega),⟨_,rfl⟩,ae,s6.eQ hD,ws++[Txt.slice z0 none (some 6)++⟨#[c1]⟩++⟨#[c2]⟩],XA,by simp[hl]⟩;rw[len_app];exact aD (show(Txt.slice z0 none (some 6)).length+1+1≤100000 by omega)
   ·rintro ys bo H' ⟨_,GL,s6,ws,rfl,hl⟩;exact⟨D,l,ws,[],[],_,rfl,s5.trans s6,GL,Xx,s6 _ _ QI, .nil,rfl⟩
  clear SQ SR lV SO T3 g3;rintro σ H5 ⟨x,l,xs,us,fs,u,rfl,s5,SU,Nf,QI,T5,g5⟩;have V':=s5 _ _ (s4 _ _ V9);refine⟨fun σ H6=>∃(g y m:Addr),σ=[some (.ref a),some (.ref b),some (.ref n),some (.ref l),some (.ref x),u,some (.ref g),none,none,none,none]∧jZ H6 g (dW ⟨xs,xs,sa,ou,iN,le,fs⟩) x y m l us,?_,?_⟩
  ·refine⟨_,rfl,_,rfl,x,_,rfl, .inl (.of SU),fun y hy=>?_⟩;have sy:=au.upd (o:= .lst (xs.map V.str)) hy;refine⟨_,rfl,_,rfl,aD Xr,fun p hp=>?_⟩;have sp:=au.upd (o:= .lst [.ref x, .ref y, .ref n, .ref l]) hp;have sA:=sy.trans sp;exact⟨p,⟨xs,xs,sa,ou,iN,le,fs⟩,x,y,n,l,us,rfl,⟨ae,sA _ _ SU,sp _ _ ae,sA _ _ V',sA _ _ QI,T5.same sA⟩,⟨by show xs.length≤_;omega,by show xs.length≤_;omega,g5,h1,h2,h3,h4⟩,fun H' g m' s' hg W5 C'=>⟨g,y,m',rfl,C'⟩⟩
  rintro σ H6 ⟨g,y,m,rfl,C6⟩;have DY:gO 40 (dW ⟨xs,xs,sa,ou,iN,le,fs⟩):=Ym ⟨by show xs.length≤_;omega,by show xs.length≤_;omega,g5,h1,h2,h3,h4⟩ Xs;have Mu:=DF DY;have ex:(dW ⟨xs,xs,sa,ou,iN,le,fs⟩).xs=xs:=rfl;have ey:(dW ⟨xs,xs,sa,ou,iN,le,fs⟩).ys=(dW ⟨xs,xs,sa,ou,iN,le,fs⟩).xs:=rfl;generalize dW ⟨xs,xs,sa,ou,iN,le,fs⟩=c at C6 DY Mu ex ey;have vi:=C6.ca;refine⟨fun σ H7=>σ=[some (.ref a),some (.ref b),some (.ref n),some (.ref l),some (.ref x),u,some (.ref g),some (.ref m),none,none,none]∧H7=H6,⟨_,rfl,g,_,2,_,rfl,rfl, .of vi,av (j:=2) rfl,rfl,rfl⟩,?_⟩;rintro σ H6 ⟨rfl,rfl⟩;have Nn:=C6.fi;have Mv:(c.xs.map V.str).length=c.xs.length:=List.length_map ..;have cs:=DY.same;have cl:=DY.least;have Wa:1≤c.xs.length∧c.xs.length≤40:=by rw[ex];exact Nf
  refine⟨fun σ H7=>∃least,(1≤least∧least≤999999)∧least≤(c.xs.length:Int)*c.same∧(least=c.least∨(c.xs.length:Int)*c.same≤least)∧σ=[some (.ref a),some (.ref b),some (.ref n),some (.ref l),some (.ref x),u,some (.ref g),some (.ref m),none,none,none]∧jZ H7 g {c with least:=least} x y m l us,?_,?_⟩
  ·have p1:1≤(c.xs.length:Int)*c.same:=by
    have:=Int.mul_le_mul (show(1:Int)≤c.xs.length by omega) cs.1 (Xy) (Xx);omega
   refine⟨_,rfl,m,_,3,_,rfl,rfl, .of C6.nu,av (j:=3) rfl,_,rfl,x,_,rfl, .inl (.of Nn),_,rfl,m,_,0,_,rfl,rfl, .of C6.nu,av (j:=0) rfl,_,_,rfl,rfl, .inr ⟨Xx,Xx⟩,_,_,rfl,_,rfl,m,_,3,3,rfl,rfl,C6.nu,rfl,?_⟩;rw[Mv];refine⟨if (c.xs.length:Int)*c.same<c.least then(c.xs.length:Int)*c.same else c.least,?_,?_,?_,rfl,C6.Jm⟩
   ·split<;>omega
   ·split<;>omega
   ·split<;>omega
  rintro σ H7 ⟨least,hle,LV,QJ,rfl,C7⟩;have QK:gO 40 {c with least:=least}:=⟨DY.x,DY.y,DY.good,DY.same,DY.out,DY.into,hle⟩
  have QL:Nu {c with least:=least}:=by
   rcases QJ with e|e
   ·rw[e];exact Mu
   ·exact DG QK ey (by show 0<c.xs.length;omega) e
  refine⟨fun σ H8=>∃(t:Addr)(vs:List V)(es:List Fd),σ=[some (.ref a),some (.ref b),some (.ref n),some (.ref l),some (.ref x),u,some (.ref g),some (.ref m),some (.ref t),none,none]∧au H7 H8∧H8 t=some (.lst vs)∧ck (fun _=>True) H8 aA vs es∧ja (j1 {c with least:=least} []) c.out c.into least es,?_,?_⟩
  ·exact⟨_,rfl,g,{c with least:=least},x,y,m,l,us,40,rfl,C7,QK,Xx,QL,fun es TD H3 t vs s3 _ h3 FL=>⟨t,vs,es,rfl,s3,h3,FL,TD⟩⟩
  rintro σ H8 ⟨t,vs,es,rfl,s8,ht,FL,TD⟩;have C8:=C7.keep s8;obtain⟨d,XR,rfl,it,rest⟩:=itself (c:={c with least:=least}) QK ey (by show 0<c.xs.length;omega) LV TD;have Wb:=FL.1;have QM:=TD.ue;have mi:=TD.mi d (XA);obtain⟨y0,dy,wy,jy,pr,mf,i7,e1,F⟩:=FL.2 0 d rfl;rw[List.length_cons]at Wb QM;refine⟨fun σ H9=>σ=[some (.ref a),some (.ref b),some (.ref n),some (.ref l),some (.ref x),u,some (.ref g),some (.ref m),some (.ref t),none,none]∧au H8 H9,?_,?_⟩
  ·refine⟨_,rfl,_,_,_,true,_,rfl,rfl, .lst ht,rfl,_,rfl,?_⟩;refine ig ?_;refine⟨_,rfl,t,_,rfl, .inl (.of ht),_,_,rfl,rfl,_,rfl,?_⟩;refine bu (fun hh=>absurd hh (by simp;omega)) (fun _=>?_);refine⟨_,rfl,t,_,0,_,rfl,rfl, .of ht,av (j:=0) e1,y0,_,d,dy,wy,jy,pr,mf,i7,rfl,F,by rw[mi.row,E9],mi.way.ne,fun H6 s6=>⟨_,rfl,?_⟩⟩;refine ig ?_;exact⟨rfl,s6⟩
  rintro σ H9 ⟨rfl,s9⟩;have Wc:=s9 _ _ ht;have C9:=C8.keep s9;have Wd:H9 x=some (.lst (c.xs.map V.str)):=C9.fi;refine⟨fun σ Ca=>∃(D:Addr)(ys:List V),σ=[some (.ref a),some (.ref b),some (.ref n),some (.ref l),some (.ref x),u,some (.ref g),some (.ref m),some (.ref t),some (.ref D),none]∧au H9 Ca∧Ca D=some (.lst ys)∧f' Ca ys (kf 0 c.xs.length),?_,?_⟩
  ·refine⟨_,rfl,x,_,rfl, .inl (.of Wd),_,rfl,Xx,Xx,fun D hD=>?_⟩;refine jD (fun i ys bo H'=>(∃u,bo=[u])∧H' D=some (.lst ys)∧au H9 H'∧f' H' ys (kf 0 i)) ⟨⟨_,rfl⟩,ae,au.upd hD, .nil⟩ ?_ ?_
   ·rintro i ys bo H' hi ⟨⟨u,rfl⟩,GL,Ex,P⟩;have hi:i<40:=by
     have:i<((c.xs.map V.str).length:Int).toNat:=hi;omega
    have pl:=P.1;rw[lB]at pl;refine kr ?_;refine⟨_,rfl,_,rfl,aD Xr,fun p hp=>?_⟩;have sp:=au.upd (o:= .tup [.int (0+(i:Int)), .int (0+(i:Int))]) hp;refine⟨sp _ _ GL,a_ Xs,⟨_,rfl⟩,ae,(Ex.trans sp).eQ hD,?_⟩;rw[wY];exact((P.same sp).snoc (f:=(0+(i:Int),0+(i:Int))) ae).cw (eV.lst (sp _ _ GL))
   ·rintro ys bo H' ⟨_,GL,Ex,P⟩;rw[show((c.xs.map V.str).length:Int).toNat=c.xs.length by omega]at P;exact⟨D,ys,rfl,Ex,GL,P⟩
  rintro σ Ca ⟨D,ys,rfl,Ex,hD,PD⟩;have Fu:=s9.trans Ex;have QN:=C9.keep Ex;have QO:Ca x=some (.lst (c.xs.map V.str)):=QN.fi;have Ba:=Ex _ _ Wc;have QP:=FL.keep (P':=fun _=>True) (fun b o _ e=>Fu b o e) (eV.same Fu) fun _ h=>h
  have F:=F.keep (P':=fun _=>True) (fun b o _ e=>Fu b o e) (eV.same Fu) fun _ h=>h
  have Pw:=F.pw;have Pp:=F.pp;rw[it.way]at Pw;rw[it.pairs]at Pp;refine⟨fun σ Bm=>σ=[some (.ref a),some (.ref b),some (.ref n),some (.ref l),some (.ref x),u,some (.ref g),some (.ref m),some (.ref t),some (.ref D),none]∧Bm=Ca,?_,?_⟩
  ·refine⟨_,rfl,t,_,0,_,rfl,rfl, .of Ba,av (j:=0) e1,y0,aA,dy,_,_,rfl,F.ob,Fc.cl,Fc.worth,jm d.worth wy jy pr,_,rfl,m,_,0,_,rfl,rfl, .of QN.nu,av (j:=0) rfl,_,rfl,x,_,rfl, .inl (.of QO),_,_,rfl,rfl, .inr ⟨Xx,Xx⟩,rfl,_,rfl,?_⟩;rw[it.worth,Mv];refine bu (fun hh=>absurd hh Xr) (fun _=>?_);refine⟨_,rfl,t,_,0,_,rfl,rfl, .of Ba,av (j:=0) e1,y0,aA,dy,_,_,rfl,F.ob,Fc.cl,Fc.way,uQ d.worth wy jy pr,_,rfl,wy,D,_,_,_,rfl,rfl, .of F.hw, .of hD,Pw,PD,_,rfl,?_⟩;refine ig ?_;refine⟨_,rfl,t,_,0,_,rfl,rfl, .of Ba,av (j:=0) e1,y0,aA,dy,_,_,rfl,F.ob,Fc.cl,Fc.pairs,nr d.worth wy jy pr,_,rfl,pr,D,_,_,_,rfl,rfl, .of F.hp, .of hD,Pp,PD,_,rfl,?_⟩;exact ig ⟨rfl,rfl⟩
  rintro σ Ca ⟨rfl,rfl⟩;refine⟨fun σ Bm=>(∃v,σ=[some (.ref a),some (.ref b),some (.ref n),some (.ref l),some (.ref x),u,some (.ref g),some (.ref m),some (.ref t),some (.ref D),v])∧au Ca Bm,?_,?_⟩
  ·refine⟨_,rfl,_,rfl,t,_,rfl, .of Ba,fun S hS=>?_⟩;have sS:=au.upd (o:= .lst (uf vs (some 1) none)) hS;refine⟨S,rfl,⟨_, .of ae⟩,?_⟩;refine cz (xs:=uf vs (some 1) none) (fun k σ Bm=>(∃v,σ=[some (.ref a),some (.ref b),some (.ref n),some (.ref l),some (.ref x),u,some (.ref g),some (.ref m),some (.ref t),some (.ref D),v])∧Bm=upd Ca S (.lst (uf vs (some 1) none))) ⟨⟨_,rfl⟩,rfl⟩ ?_ ?_ ?_
   ·rintro k σ Bm _ ⟨_,rfl⟩;exact .of ae
   ·rintro k v σ Bm hv ⟨⟨u,rfl⟩,rfl⟩;rw[Fb,List.getElem?_drop]at hv;have hk:k<XR.length:=by
     have:=(Xd hv).1;omega
    have ek:(d::XR)[1+k]?=some XR[k]:=by rw[Nat.add_comm,List.getElem?_cons_succ];simp[hk]
    have hm:=rest XR[k] (List.getElem_mem hk);generalize XR[k]=e at ek hm;obtain⟨y2,SV,SW,SX,SY,W6,W7,e2,F2⟩:=QP.2 (1+k) e ek;rw[hv]at e2;cases e2;refine⟨_,rfl,y2,aA,SV,_,_,rfl,sS _ _ F2.ob,Fc.cl,Fc.worth,jm e.worth SW SX SY,_,rfl,_,rfl,?_⟩;refine ig ?_;refine⟨_,rfl,y2,aA,SV,_,_,rfl,sS _ _ F2.ob,Fc.cl,Fc.worth,jm e.worth SW SX SY,_,rfl,t,_,0,_,rfl,rfl, .of (sS _ _ Ba),av (j:=0) e1,y0,aA,dy,_,_,rfl,sS _ _ F.ob,Fc.cl,Fc.worth,jm d.worth wy jy pr,_,_,rfl,rfl,_,rfl,?_⟩;exact bu (fun hh=>absurd hh (by simp;omega)) (fun _=>⟨⟨_,rfl⟩,rfl⟩)
   ·rintro σ Bm ⟨We,rfl⟩;exact⟨We,sS⟩
  rintro σ Bm ⟨⟨v,rfl⟩,Lf⟩;have S7:=QN.keep Lf;have QR:Bm x=some (.lst (c.xs.map V.str)):=S7.fi;have QS:=Lf _ _ Ba;have QT:=Lf _ _ F.hr;refine⟨_,rfl,t,_,0,_,rfl,rfl, .of QS,av (j:=0) e1,y0,aA,dy,_,_,rfl,Lf _ _ F.ob,Fc.cl,Fc.row,uR d.worth wy jy pr,_,rfl,x,_,rfl, .inl (.of QR),_,rfl,Xx,Xx,fun R hR=>?_⟩;refine jD (fun i ys bo H'=>(∃u,bo=[u,some (.ref m)])∧H' R=some (.lst ys)∧au Bm H'∧ys=((List.range i).map fun k:Nat=>c.same*((k:Int)+1)).map V.int) ⟨⟨_,rfl⟩,ae,au.upd hR,rfl⟩ ?_ ?_
  ·rintro i ys bo H' hi ⟨⟨u,rfl⟩,N0,A_,rfl⟩;have hi:i<40:=by
    have:i<((c.xs.map V.str).length:Int).toNat:=hi;omega
   have Wf:=S7.keep A_;refine kr ?_;refine⟨_,rfl,m,_,0,_,rfl,rfl, .of Wf.nu,av (j:=0) rfl,_,rfl,_,_,rfl,rfl,_,_,rfl,rfl, .inr ⟨Xx,Xx⟩,N0,a_ (by rw[List.length_map,List.length_map,List.length_range];omega),⟨_,rfl⟩,ae,A_.eQ hR,?_⟩;rw[List.range_succ,List.map_append,List.map_append,Int.zero_add];rfl
  ·rintro ys bo H' ⟨_,N0,A_,rfl⟩;rw[show((c.xs.map V.str).length:Int).toNat=c.xs.length by omega]at N0;refine⟨jy,R,d.row,rfl,A_ _ _ QT,?_,?_,q _⟩
   ·rw[it.row];exact N0
   ·rw[it.row,List.length_map,List.length_range];show c.xs.length≤_;omega
end
theorem all_mk{l:W.OpenLaw}{w:World}{K:W.Frag}{h:Heap}{mg:Str→Option Value}{fa:Addr}(X:K.In h)(G:h.Ns mainGlobals mg)(Wg:mg "law"=some (.ref fa))
  {nL iW:Option Addr} {nM:Array (Option Value)} {nN iX iY iZ fR i4:Value}
  {fS:Addr} {nO:Value} {nP:Option Addr} {nQ:Nat} {nS:Array (Option Value)} {nU:Tok}
  {aQ:Addr} (vk:L3 K "Terms" aQ)
  {az:Addr} (rH:L3 K "Trails" az)
  {aA:Addr} (pd:L3 K "Finding" aA)
  {aF:Addr} (rJ:L3 K "Groups" aF)
  {ax:Addr} (kL:L3 K "Gathering" ax)
  {i5:Addr} (nV:W.nsIn K mainGlobals "is_small_letter"=some (some (.ref i5)))
  (nW:fX K "is_small_letter" "is_small_letter" fD i5)
  {tW:Addr} (Bb:W.nsIn K mainGlobals "is_word"=some (some (.ref tW)))
  (Bc:fX K "is_word" "is_word" lC tW)
  {nX:Addr} (vm:W.nsIn K mainGlobals "is_between"=some (some (.ref nX)))
  (vn:fX K "is_between" "is_between" jJ nX)
  {kM:Addr} (rK:W.nsIn K mainGlobals "check_number"=some (some (.ref kM)))
  (rL:fX K "check_number" "check_number" iq kM)
  {i6:Addr} (nY:W.nsIn K mainGlobals "check_near_form"=some (some (.ref i6)))
  (nZ:fX K "check_near_form" "check_near_form" fE i6)
  {lZ:Addr} (sQ:W.nsIn K mainGlobals "near_prices"=some (some (.ref lZ)))
  (sR:fX K "near_prices" "near_prices" gu lZ)
  {eP:Addr} (pe:W.findIn K (.ref aQ) "__init__"=some (some (.ref eP))) (ph:W.isFn K (.ref eP)=true)
  (pj:K.lookup eP=some ⟨nN,nL, .func (W.fnOf "__init__" "Terms.__init__" (eK bh) (dS bh) (aq bh) (.ref fS) iX iY iZ iW fR i4),nM⟩)
  (px:W.codeIn K fR "Terms.__init__"=true) (pz:W.keepIn K (.ref eP)=true)
  (n5:K.lookup fS=some ⟨nO,nP, .seq #[.int 50 nU, .none] nQ,nS⟩)
  {fe:Addr} (mH:W.findIn K (.ref aQ) "pair_worth"=some (some (.ref fe))) (mI:W.isFn K (.ref fe)=true)
  (mJ:fX K "pair_worth" "Terms.pair_worth" dB fe)
  {rM:Addr} (Zx:W.nsIn K mainGlobals "greatest"=some (some (.ref rM)))
  (Zi:fX K "greatest" "greatest" jK rM)
  {DJ:Addr} (Jz:W.nsIn K mainGlobals "less"=some (some (.ref DJ)))
  (JA:fX K "less" "less" YJ DJ)
  {iz:Addr} (mK:W.nsIn K mainGlobals "begun_or_gone_on"=some (some (.ref iz)))
  (mL:fX K "begun_or_gone_on" "begun_or_gone_on" e7 iz)
  {dj:Addr} (jv:W.findIn K (.ref az) "brought_behind"=some (some (.ref dj))) (jw:W.isFn K (.ref dj)=true)
  (jx:fX K "brought_behind" "Trails.brought_behind" de dj)
  {fT:Addr} (n6:W.findIn K (.ref az) "__init__"=some (some (.ref fT))) (n8:W.isFn K (.ref fT)=true)
  (n9:fX K "__init__" "Trails.__init__" dX fT)
  {gj:Addr} (pA:W.findIn K (.ref az) "goes_on"=some (some (.ref gj))) (pB:W.isFn K (.ref gj)=true)
  (pC:fX K "goes_on" "Trails.goes_on" gh gj)
  {dH:Addr} (jU:W.findIn K (.ref az) "is_brought_by"=some (some (.ref dH))) (jV:W.isFn K (.ref dH)=true)
  (jW:fX K "is_brought_by" "Trails.is_brought_by" dC dH)
  {cH:Addr} (iC:W.findIn K (.ref az) "crossings_before"=some (some (.ref cH))) (iD:W.isFn K (.ref cH)=true)
  (iE:fX K "crossings_before" "Trails.crossings_before" cG cH)
  {eI:Addr} (kN:W.findIn K (.ref az) "pair_before"=some (some (.ref eI))) (kO:W.isFn K (.ref eI)=true)
  (kP:fX K "pair_before" "Trails.pair_before" eh eI)
  {gQ:Addr} (qi:W.findIn K (.ref az) "way_to"=some (some (.ref gQ))) (qj:W.isFn K (.ref gQ)=true)
  (qk:fX K "way_to" "Trails.way_to" gP gQ)
  {ff:Addr} (mM:W.findIn K (.ref aA) "__init__"=some (some (.ref ff))) (mO:W.isFn K (.ref ff)=true)
  (mP:fX K "__init__" "Finding.__init__" e8 ff)
  {rN:Addr} (ZD:W.nsIn K mainGlobals "order_of"=some (some (.ref rN)))
  (Zk:fX K "order_of" "order_of" mn rN)
  {kQ:Addr} (rO:W.nsIn K mainGlobals "make_finding"=some (some (.ref kQ)))
  (rP:fX K "make_finding" "make_finding" eA kQ)
  {fU:Addr} (n_:W.findIn K (.ref aF) "__init__"=some (some (.ref fU))) (oa:W.isFn K (.ref fU)=true)
  (oe:fX K "__init__" "Groups.__init__" fF fU)
  {jX:Addr} (vo:W.findIn K (.ref aF) "has"=some (some (.ref jX))) (vp:W.isFn K (.ref jX)=true)
  (vq:fX K "has" "Groups.has" gY jX)
  {gk:Addr} (pD:W.findIn K (.ref aF) "take_in"=some (some (.ref gk))) (pE:W.isFn K (.ref gk)=true)
  (pF:fX K "take_in" "Groups.take_in" eM gk)
  {iA:Addr} (rQ:W.findIn K (.ref aF) "unite"=some (some (.ref iA))) (rR:W.isFn K (.ref iA)=true)
  (rS:fX K "unite" "Groups.unite" eC iA)
  {je:Addr} (sT:W.findIn K (.ref aF) "told"=some (some (.ref je))) (sU:W.isFn K (.ref je)=true)
  (sV:fX K "told" "Groups.told" gv je)
  {eJ:Addr} (kR:W.findIn K (.ref ax) "__init__"=some (some (.ref eJ))) (kT:W.isFn K (.ref eJ)=true)
  (kU:fX K "__init__" "Gathering.__init__" eD eJ)
  {gm:Addr} (pG:W.findIn K (.ref ax) "mark"=some (some (.ref gm))) (pH:W.isFn K (.ref gm)=true)
  (pI:fX K "mark" "Gathering.mark" eO gm)
  {eR:Addr} (lO:W.findIn K (.ref ax) "go_over"=some (some (.ref eR))) (lP:W.isFn K (.ref eR)=true)
  (lQ:fX K "go_over" "Gathering.go_over" cY eR)
  {fV:Addr} (oh:W.findIn K (.ref ax) "visit"=some (some (.ref fV))) (oj:W.isFn K (.ref fV)=true)
  (om:fX K "visit" "Gathering.visit" dY fV)
  {l0:Addr} (sW:W.nsIn K mainGlobals "best_groups"=some (some (.ref l0)))
  (sX:fX K "best_groups" "best_groups" jb l0)
  {tX:Addr} (Bd:W.nsIn K mainGlobals "shut_by"=some (some (.ref tX)))
  (Be:fX K "shut_by" "shut_by" lD tX)
  {l5:Addr} (sY:W.nsIn K mainGlobals "open_worths"=some (some (.ref l5)))
  (sZ:fX K "open_worths" "open_worths" eW l5)
  {oq:Addr} (vt:W.nsIn K mainGlobals "make_round"=some (some (.ref oq)))
  (vw:fX K "make_round" "make_round" fG oq)
  {ot:Addr} (vx:W.nsIn K mainGlobals "shut_pairs"=some (some (.ref ot)))
  (vy:fX K "shut_pairs" "shut_pairs" jL ot)
  {tY:Addr} (Bf:W.nsIn K mainGlobals "compare"=some (some (.ref tY)))
  (Bg:fX K "compare" "compare" o7 tY)
  {tZ:Addr} (Bh:W.nsIn K mainGlobals "_law_at"=some (some (.ref tZ)))
  (Bi:fX K "_law_at" "_law_at" o8 tZ)
  {ow:Addr} (vz:W.nsIn K mainGlobals "_law_whole"=some (some (.ref ow)))
  (vA:fX K "_law_whole" "_law_whole" jM ow)
  {pV:Addr} (ZE:W.nsIn K mainGlobals "_law_bank"=some (some (.ref pV)))
  (ZS:fX K "_law_bank" "_law_bank" kD pV)
  {pW:Addr} (Zo:W.nsIn K mainGlobals "_law_book"=some (some (.ref pW)))
  (ZQ:fX K "_law_book" "_law_book" kE pW)
  {kW:Addr} (rT:W.nsIn K mainGlobals "_law_numbers"=some (some (.ref kW)))
  (rV:fX K "_law_numbers" "_law_numbers" fH kW)
  {pX:Addr} (Z_:W.nsIn K mainGlobals "_law_near"=some (some (.ref pX)))
  (ZT:fX K "_law_near" "_law_near" kF pX)
  {pY:Addr} (ZR:W.nsIn K mainGlobals "_law_pair"=some (some (.ref pY)))
  (Zj:fX K "_law_pair" "_law_pair" kG pY)
  {oz:Addr} (vB:W.nsIn K mainGlobals "_law_pairs"=some (some (.ref oz)))
  (vC:fX K "_law_pairs" "_law_pairs" jN oz)
  {rW:Addr} (ZV:W.nsIn K mainGlobals "_law_row"=some (some (.ref rW)))
  (Zr:fX K "_law_row" "_law_row" mq rW)
  {oA:Addr} (vD:W.nsIn K mainGlobals "_law_terms"=some (some (.ref oA)))
  (vE:fX K "_law_terms" "_law_terms" jO oA)
  {pZ:Addr} (ZP:W.nsIn K mainGlobals "_law_calm"=some (some (.ref pZ)))
  (Zn:fX K "_law_calm" "_law_calm" kH pZ)
  {kX:Addr} (rX:W.nsIn K mainGlobals "_law_finding"=some (some (.ref kX)))
  (rY:fX K "_law_finding" "_law_finding" fI kX)
  {oB:Addr} (vF:W.nsIn K mainGlobals "_law_asked"=some (some (.ref oB)))
  (vG:fX K "_law_asked" "_law_asked" jP oB)
  {GN:Addr} (Mw:W.nsIn K mainGlobals "law"=some (some (.ref GN)))
  (Mx:fX K "law" "law" kI GN)
  (Tc:Ck K aQ)
  (Rc:Yu K az)
  (Fc:Gm K aA)
  (Gc:LO K aF)
  (Hc:Gs K ax)
  (zz:TZ K)
  {ZL:Tok} (Ze:W.nsIn K mainGlobals "WORD_MOST"=some (some (.int 12 ZL)))
  {vH:Tok} (vI:W.nsIn K mainGlobals "WORTH_MOST"=some (some (.int 999999 vH)))
  {Zw:Tok} (ZG:W.nsIn K mainGlobals "NEAR_MOST"=some (some (.int 60 Zw)))
  {ZC:Tok} (Zq:W.nsIn K mainGlobals "PART_MOST"=some (some (.int 100 ZC)))
  {ql:Tok} (qm:W.nsIn K mainGlobals "FINDINGS_MOST"=some (some (.int 20 ql)))
  {dD:Addr} (Zf:L1 K "BadTerms" dD)
  {cI:Addr} (Bj:L1 K "BadNear" cI)
  {jn:Addr} (Bk:L1 K "TooMany" jn)
  (ZO:W.nsIn K mainGlobals "reversed"=some none)
  (DK:W.nsIn K mainGlobals "sorted"=some none)
  :∃fd:FuncData,(∀(s:Shared)(v:Value),BindsTo s fd ⟨[v],[]⟩ [("_law_script",v)])∧∀base:Heap,K.In base→base.Ns mainGlobals mg→aY l.prog w K mg base (c8 l.prog w) true 10 fa fd ["_law_script"] (YB K):=by
 have e:=Wg.symm.trans (W.mg_of X G Mw);cases e;have T:=zz.tb X G;have iO:BL mg "WORD_MOST" (.int 12):=⟨_,W.mg_of X G Ze,_,rfl⟩
 have bF:BL mg "WORTH_MOST" (.int 999999):=⟨_,W.mg_of X G vI,_,rfl⟩
 have gJ:BL mg "NEAR_MOST" (.int 60):=⟨_,W.mg_of X G ZG,_,rfl⟩
 have iP:BL mg "PART_MOST" (.int 100):=⟨_,W.mg_of X G Zq,_,rfl⟩
 have dJ:BL mg "FINDINGS_MOST" (.int 20):=⟨_,W.mg_of X G qm,_,rfl⟩
 have ir:=Zf.er X G;have bO:=Bj.er X G;have ju:=Bk.er X G;have JB:mg "reversed"=none:=W.mg_none_of X G ZO;have iw:mg "sorted"=none:=W.mg_none_of X G DK;obtain @⟨_,k1,k2,k3,k4,k5,_,k6,_,l9,c9,k9⟩:=Mx;refine⟨W.fnOf "law" "law" (eK kI) (dS kI) (aq kI) .none k1 k2 k3 k6 k4 k5,fun s v=> .of_eq rfl,fun base _ _=>?_⟩;have dZ:=nW.df X G nV (fun _ F=>my (P:=l.prog) (w:=w) (base:=base) T F) (XQ fun _ _ _ _ _ _ _=>rfl);have jo:=Bc.df X G Bb (fun _ F=>Zb (P:=l.prog) (w:=w) (base:=base) T iO dZ F) (XQ fun _ _ _ _ _ _ _=>rfl);have dE:=vn.df X G vm (fun _ F=>sC (P:=l.prog) (w:=w) (base:=base) T F) (X7 fun _ _ _ _ _ _ _ _ _=>rfl);have bX:=rL.df X G rK (fun _ F=>qb (P:=l.prog) (w:=w) (base:=base) T dE ir F) (PV fun _ _ _ _ _ _ _ _ _ _=>rfl);have d0:=nZ.df X G nY (fun _ F=>mB (P:=l.prog) (w:=w) (base:=base) T dE bF jo bO F) (X7 fun _ _ _ _ _ _ _ _ _=>rfl);have gw:=sR.df X G sQ (fun _ F=>rB (P:=l.prog) (w:=w) (base:=base) T bO gJ d0 F) (XQ fun _ _ _ _ _ _ _=>rfl);have pJ:=Ys (st:=bh) pj px pz;have pK:=nE (P:=l.prog) (w:=w) (base:=base) T bF iP bX gw Tc pJ;have Zt:Binds K (W.fnOf "__init__" "Terms.__init__" (eK bh) (dS bh) (aq bh) (.ref fS) iX iY iZ iW fR i4) ["self","same","out","into","least","part","near"] []:=fun s us hK hl=>by
  obtain⟨_,_,_,_,_,_,_,rfl⟩:=QF.O0 us (by simpa using hl);exact BindsTo.of_defaults rfl (hK _ _ n5) rfl rfl rfl
 have nK:lS l.prog w K mg base true 5 "Terms" aQ ["self","same","out","into","least","part","near"] [] (qv aQ dD cI):=wk pK ⟨vk.b,pe,ph,vk.c⟩ (W.mg_of X G vk.a) Zt (.nil);have dG:=mJ.mt Tc.cl mH mI (fun _ F=>lJ (P:=l.prog) (w:=w) (base:=base) T Tc F) (X7 fun _ _ _ _ _ _ _ _ _=>rfl);have eF:=Zi.df X G Zx (fun _ F=>w6 (P:=l.prog) (w:=w) (base:=base) T F) (XQ fun _ _ _ _ _ _ _=>rfl);have jQ:=JA.df X G Jz (fun _ F=>Fg (P:=l.prog) (w:=w) (base:=base) T F) (XN fun _ _ _ _ _ _ _ _=>rfl);have dF:=mL.df X G mK (fun _ F=>lL (P:=l.prog) (w:=w) (base:=base) T F) (XN fun _ _ _ _ _ _ _ _=>rfl);have b_:=jx.mt Rc.cl jv jw (fun _ F=>jc (P:=l.prog) (w:=w) (base:=base) T eF jQ Rc F) (X7 fun _ _ _ _ _ _ _ _ _=>rfl);have lG:=n9.nw (W.mg_of X G rH.a) rH.b rH.c n6 n8 (fun _ F=>mC (P:=l.prog) (w:=w) (base:=base) T Tc Rc dF b_ F) (X7 fun _ _ _ _ _ _ _ _ _=>rfl);have bQ:=pC.mt Rc.cl pA pB (fun _ F=>nF (P:=l.prog) (w:=w) (base:=base) T Rc F) (XN fun _ _ _ _ _ _ _ _=>rfl);have a7:=jW.mt Rc.cl jU jV (fun _ F=>jr (P:=l.prog) (w:=w) (base:=base) T Rc F) (X7 fun _ _ _ _ _ _ _ _ _=>rfl);have aW:=iE.mt Rc.cl iC iD (fun _ F=>iu (P:=l.prog) (w:=w) (base:=base) T jQ Rc F) (XN fun _ _ _ _ _ _ _ _=>rfl);have cR:=kP.mt Rc.cl kN kO (fun _ F=>j9 (P:=l.prog) (w:=w) (base:=base) T Rc a7 aW F) (XN fun _ _ _ _ _ _ _ _=>rfl);have eY:=qk.mt Rc.cl qi qj (fun _ F=>o_ (P:=l.prog) (w:=w) (base:=base) T Rc bQ cR F) (XN fun _ _ _ _ _ _ _ _=>rfl);have jR:=mP.nw (W.mg_of X G pd.a) pd.b pd.c mM mO (fun _ F=>lN (P:=l.prog) (w:=w) (base:=base) T Fc F) (RL fun _ _ _ _ _ _ _ _ _ _ _=>rfl);have jS:=Zk.df X G ZD (fun _ F=>w9 (P:=l.prog) (w:=w) (base:=base) T Fc F) (XQ fun _ _ _ _ _ _ _=>rfl);have fK:=rP.df X G rO (fun _ F=>qe (P:=l.prog) (w:=w) (base:=base) T Rc eY jR F) (X7 fun _ _ _ _ _ _ _ _ _=>rfl);have lE:=oe.nw (W.mg_of X G rJ.a) rJ.b rJ.c n_ oa (fun _ F=>mE (P:=l.prog) (w:=w) (base:=base) T Gc F) (XQ fun _ _ _ _ _ _ _=>rfl);have gZ:=vq.mt Gc.cl vo vp (fun _ F=>sF (P:=l.prog) (w:=w) (base:=base) T Gc F) (XN fun _ _ _ _ _ _ _ _=>rfl);have bR:=pF.mt Gc.cl pD pE (fun _ F=>nH (P:=l.prog) (w:=w) (base:=base) T Gc F) (XN fun _ _ _ _ _ _ _ _=>rfl);have cC:=rS.mt Gc.cl rQ rR (fun _ F=>qf (P:=l.prog) (w:=w) (base:=base) T Gc F) (X7 fun _ _ _ _ _ _ _ _ _=>rfl);have gy:=sV.mt Gc.cl sT sU (fun _ F=>rD (P:=l.prog) (w:=w) (base:=base) T Gc iw F) (XQ fun _ _ _ _ _ _ _=>rfl);have g7:=kU.nw (W.mg_of X G kL.a) kL.b kL.c kR kT (fun _ F=>ka (P:=l.prog) (w:=w) (base:=base) T lE Hc F) (X7 fun _ _ _ _ _ _ _ _ _=>rfl);have bS:=pI.mt Hc.cl pG pH (fun _ F=>nJ (P:=l.prog) (w:=w) (base:=base) T Hc cC F) (X7 fun _ _ _ _ _ _ _ _ _=>rfl);have cZ:=lQ.mt Hc.cl lO lP (fun _ F=>kK (P:=l.prog) (w:=w) (base:=base) T a7 aW Hc cC bR bS F) (X7 fun _ _ _ _ _ _ _ _ _=>rfl);have d6:=om.mt Hc.cl oh oj (fun _ F=>mF (P:=l.prog) (w:=w) (base:=base) T Rc bQ Hc bR bS gZ cZ F) (X7 fun _ _ _ _ _ _ _ _ _=>rfl);have gz:=sX.df X G sW (fun _ F=>rE (P:=l.prog) (w:=w) (base:=base) T Rc Hc g7 d6 gy F) (XN fun _ _ _ _ _ _ _ _=>rfl);have lF:=Be.df X G Bd (fun _ F=>ZI (P:=l.prog) (w:=w) (base:=base) T F) (XQ fun _ _ _ _ _ _ _=>rfl);have gB:=sZ.df X G sY (fun _ F=>rF (P:=l.prog) (w:=w) (base:=base) T Tc lF dG F) (PV fun _ _ _ _ _ _ _ _ _ _=>rfl);have fL:=vw.df X G vt (fun _ F=>sG (P:=l.prog) (w:=w) (base:=base) T Tc eF Rc lG gz fK F) (XN fun _ _ _ _ _ _ _ _=>rfl);have g8:=vy.df X G vx (fun _ F=>sI (P:=l.prog) (w:=w) (base:=base) T Fc F) (XN fun _ _ _ _ _ _ _ _=>rfl);have lH:=Bg.df X G Bf (fun _ F=>ZY (P:=l.prog) (w:=w) (base:=base) T iw dJ gB fL g8 jS ju F) (X7 fun _ _ _ _ _ _ _ _ _=>rfl);have bC:=Bi.df X G Bh (fun _ F=>Zy (P:=l.prog) (w:=w) (base:=base) T F) (XN fun _ _ _ _ _ _ _ _=>rfl);have a8:=vA.df X G vz (fun _ F=>sL (P:=l.prog) (w:=w) (base:=base) T F) (XQ fun _ _ _ _ _ _ _=>rfl);have iS:=ZS.df X G ZE (fun _ F=>vc (P:=l.prog) (w:=w) (base:=base) T F) (X7 fun _ _ _ _ _ _ _ _ _=>rfl);have iU:=ZQ.df X G Zo (fun _ F=>ve (P:=l.prog) (w:=w) (base:=base) T bC F) (RL fun _ _ _ _ _ _ _ _ _ _ _=>rfl);have fO:=rV.df X G rT (fun _ F=>qg (P:=l.prog) (w:=w) (base:=base) T bC F) (XN fun _ _ _ _ _ _ _ _=>rfl);have iT:=ZT.df X G Z_ (fun _ F=>vf (P:=l.prog) (w:=w) (base:=base) T F) (X7 fun _ _ _ _ _ _ _ _ _=>rfl);have iR:=Zj.df X G ZR (fun _ F=>vh (P:=l.prog) (w:=w) (base:=base) T F) (PV fun _ _ _ _ _ _ _ _ _ _=>rfl);have fN:=vC.df X G vB (fun _ F=>sM (P:=l.prog) (w:=w) (base:=base) T a8 F) (XQ fun _ _ _ _ _ _ _=>rfl);have jT:=Zr.df X G ZV (fun _ F=>w_ (P:=l.prog) (w:=w) (base:=base) T a8 F) (XN fun _ _ _ _ _ _ _ _=>rfl);have g_:=vE.df X G vD (fun _ F=>sN (P:=l.prog) (w:=w) (base:=base) T nK F) (XQ fun _ _ _ _ _ _ _=>rfl);have iV:=Zn.df X G ZP (fun _ F=>vj (P:=l.prog) (w:=w) (base:=base) T iR F) (XQ fun _ _ _ _ _ _ _=>rfl);have fQ:=rY.df X G rX (fun _ F=>qh (P:=l.prog) (w:=w) (base:=base) T Fc a8 fN F) (XQ fun _ _ _ _ _ _ _=>rfl);have hG:=vG.df X G vF (fun _ F=>sP (P:=l.prog) (w:=w) (base:=base) T lH g_ F) (XQ fun _ _ _ _ _ _ _=>rfl);exact Jy T Fc bC a8 iS fO iT iU iV hG fQ jT (B8 (st:=kI) l9 c9 k9)
theorem walk{l:W.OpenLaw}{q:Program}{loose:List Str}{XP:(Str→Option Value)→Heap→Prop}{YP:World→Heap→Prop}{d:DefRec}{K:Params→W.Frag}(hn:l.most=some 63)(K3:d.params.defaults=[])
  (hY:∀(w:World)(h:Heap),YP w h→(K w.params).In h)
  (F:∀(w:World)(mg:Str→Option Value)(fa:Addr)(h:Heap),(K w.params).In h→h.Ns mainGlobals mg→mg d.name=some (.ref fa)→
   ∃fd:FuncData,(∀(s:Shared)(u:Value),BindsTo s fd ⟨[u],[]⟩ [("_law_script",u)])∧∀base:Heap,(K w.params).In base→base.Ns mainGlobals mg→aY l.prog w (K w.params) mg base (c8 l.prog w) true 10 fa fd ["_law_script"] (YB (K w.params))):
  W.WalkO q loose XP YP l.row.toRowW d [] (fun f vs=>PySem.call f vs):=
 L2.Es (n:=63) (k:=10) (x:="_law_script") (CX:=fun w=>c8 l.prog w) (sp:=fun w=>YB (K w.params)) hn (Xy) K3 ⟨(fun _=>rfl),Xy,Xy⟩ hY F (fun _ _ a ns hl _ hS=>⟨a,ns,rfl,hS,hl,fun _=>rfl⟩) fun _ _ _ _ _ z=>by obtain⟨_,_,_,_,_,_,_,_,_,_,_,_,_,z⟩:=z;exact z
end P0
open PySem PySem.W PyProof.Rows
set_option maxRecDepth 100000 in
set_option maxHeartbeats 0 in
theorem PySem.Challenge.cw_quotefind_k28_itself_holds : PySem.Challenge.rw_quotefind_k28_itself.Holds := by
 w_on;refine holds_law HD.ws fun said=>?_;k_head
 (case hw=>w_witness2)
 refine P0.walk (l:=PySem.Challenge.rw_quotefind_k28_itself) rfl rfl (fun w h Y=>PySem.W.kIn_of Y) ?F
 case F=>
  intro w mg fa h KX G K4
  refine' P0.all_mk KX G K4 ?_ ?_ ?_ ?_ ?_ ?_ ?_ ?_ ?_ ?_ ?_ ?_ ?_ ?_ ?_ ?_ ?_ ?_ ?_ ?_ ?_ ?_ ?_ ?_ ?_ ?_ ?_ ?_ ?_ ?_ ?_ ?_ ?_ ?_ ?_ ?_ ?_ ?_ ?_ ?_ ?_ ?_ ?_ ?_ ?_ ?_ ?_ ?_ ?_ ?_ ?_ ?_ ?_ ?_ ?_ ?_ ?_ ?_ ?_ ?_ ?_ ?_ ?_ ?_ ?_ ?_ ?_ ?_ ?_ ?_ ?_ ?_ ?_ ?_ ?_ ?_ ?_ ?_ ?_ ?_ ?_ ?_ ?_ ?_ ?_ ?_ ?_ ?_ ?_ ?_ ?_ ?_ ?_ ?_ ?_ ?_ ?_ ?_ ?_ ?_ ?_ ?_ ?_ ?_ ?_ ?_ ?_ ?_ ?_ ?_ ?_ ?_ ?_ ?_ ?_ ?_ ?_ ?_ ?_ ?_ ?_ ?_ ?_ ?_ ?_ ?_ ?_ ?_ ?_ ?_ ?_ ?_ ?_ ?_ ?_ ?_ ?_ ?_ ?_ ?_ ?_ ?_ ?_
  all_goals first|k_is|(show(_:Prop);constructor<;>first|(show _=_;k_is)|k_exc|(constructor<;>(show _=_;k_is)))|skip
#print axioms PySem.Challenge.cw_quotefind_k28_itself_holds
