import PyProof.Rows.All
import Wide.All
import OpenK.AllK
import Wide.FinOn
import Lean
import PyProof.EqAt
import PyProof.EqKinds
import PyProof.TupleCall
import PySem.Challenge.RW_quotefind_k29_alike
set_option Elab.async false
set_option linter.all false
set_option maxRecDepth 100000
set_option hygiene false in
local macro_rules
|`(tactic|o_head $H)=>`(tactic|refine holds_open (q:=HD.q HD.pw) (loose:=HD.loose) (Xt:=HD.Xt HD.pw []) (XP:=XL (HD.q HD.pw) []) (Yf:=Hook.obs $H) (Ya:=Hook.val $H) (YP:=Hook.says $H) (d:=HD.d) (kwd:=[]) (N:=HD.IL) (HD.left HD.pw HD.Vk $H fun w os=>by kernel_rfl) (Hook.of $H) (Hook.keeps $H) (fun s e=>xl_of s (Bool.and_eq_true_iff.mp e).1) XL.keeps (by kernel_rfl) (by kernel_rfl) (by kernel_rfl) (fun s e=>recFacts_of (Bool.and_eq_true_iff.mp e).2) (by rfl) (by assumption) (by decide+kernel) ⟨rfl,rfl,rfl,rfl,rfl,by decide+kernel⟩ ?hw ?hc)
|`(Y2 $a $b)=>`(@aj _ _ _ _ _ $a $b (by rfl))
|`(Y3 $a $b $c)=>`(@aH _ _ $a _ _ _ _ $b (by exact rfl) (Or.inl rfl) $c (by rfl) (by exact .inl rfl))
|`(Y4 $a $b $c $d)=>`(@aE _ _ _ _ _ _ _ _ _ $a (by exact rfl) $b $c $d (by decide) (by decide) (by rfl) (by rfl))
|`(Y5 $a $b $c)=>`(@aN _ _ _ _ _ _ _ _ _ _ _ _ $a (hr.mono (by decide)) $b $c (by rfl) (by decide) (by rfl) (by rfl))
|`(Y6 $a $b $c)=>`(@aT _ _ $a _ $b (by exact rfl) $c (by first|exact .inl rfl|exact .inr rfl|assumption))
|`(Y7 $a $b)=>`(@aC _ $a _ _ _ _ $b (by rfl) (by rfl))
|`(Y8 $a $b $c)=>`(@aS _ _ _ _ _ _ _ $a $b $c (fun _ _=>rfl))
|`(Y9 $a $b)=>`(@aI _ _ _ _ _ _ _ _ $a (@aN _ _ _ _ _ _ _ _ _ _ _ _ bG (hr.mono (by decide)) aV (@aj _ _ _ _ _ (pv 0) (@aj _ _ _ _ _ aq af (by rfl)) (by rfl)) (by rfl) (by decide) (by rfl) (by rfl)) $b)
|`(Y_ $a $b)=>`(@aN _ _ _ _ _ _ _ _ _ _ _ _ $a (hr.mono (by decide)) $b (@aj _ _ _ _ _ (pv 0) (@aj _ _ _ _ _ aq af (by rfl)) (by rfl)) (by rfl) (by decide) (by rfl) (by rfl))
|`(Y' $a)=>`(List.getElem?_eq_some_iff.mp $a)
|`(Za $a $b $c)=>`(@aI _ _ _ _ _ _ _ _ $a $b $c)
|`(Zb $a $b $c $d $e)=>`(@bI _ _ _ _ _ _ _ _ _ _ _ _ _ _ _ _ $a $b $c $d $e (by rfl) (by rfl) (by rfl))
|`(Zc $a $b $c $d $e $f $g)=>`(@fS _ $a _ _ _ _ _ _ _ _ _ _ _ $b $c $d $e $f $g (by rfl) (by rfl) (by rfl) (by rfl) (by rfl) (by rfl))
|`(Zd $a)=>`(List.mem_of_getElem? $a)
|`(Ze $a)=>`(if_neg $a)
|`(Zf $a $b)=>`(@az _ _ _ _ _ $a $b)
|`(Zg $a)=>`(@ak _ _ _ $a)
|`(Zh $a $b)=>`(@aI _ _ _ _ _ _ _ _ $a $b (@aI _ _ _ _ _ _ _ _ de (@aN _ _ _ _ _ _ _ _ _ _ _ _ bG (hr.mono (by decide)) aV (@aj _ _ _ _ _ (pv 0) (@aj _ _ _ _ _ aq af (by rfl)) (by rfl)) (by rfl) (by decide) (by rfl) (by rfl)) aq))
|`(Zi $a)=>`(if_pos $a)
|`(Zj $a)=>`(Heap.get?_push_of_some _ $a)
|`(Zk $a)=>`(@gB _ _ _ _ _ _ $a (by first|exact cb _ (by decide) (by decide)|rfl))
|`(Zl $a $b)=>`(@br _ _ _ _ _ _ _ _ (@PW.pt _ _ _ (@pw_or _ _ _ _ _ _ _ (@cM _ _ _ _ (@bQ _ _ _ (@aE _ _ _ _ _ _ _ _ _ (gE K) (by exact rfl) T.aP PyProof.Rows.Boot.«isinstance» (@aj _ _ _ _ _ (pv 0) (@aj _ _ _ _ _ (@i5 _ _ (.ty "list") _ _ (by exact rfl) T.r6 PyProof.Rows.Boot.«list» (by exact rfl) (by decide) (by decide)) af (by rfl)) (by rfl)) (by decide) (by decide) (by rfl) (by rfl)) (by intro _;rfl))) (@pw_or1 _ _ _ _ (@aZ _ _ _ _ _ _ _ _ rL (@aE _ _ _ _ _ _ _ _ _ (aK K) (by exact rfl) T.d6 PyProof.Rows.Boot.«len» (@aj _ _ _ _ _ (pv 0) af (by rfl)) (by decide) (by decide) (by rfl) (by rfl)) (@aE _ _ _ _ _ _ _ _ _ (aK K) (by exact rfl) T.d6 PyProof.Rows.Boot.«len» (@aj _ _ _ _ _ (pv 1) af (by rfl)) (by decide) (by decide) (by rfl) (by rfl)) (aY _))))) $a $b)
|`(Zm $a $b $c)=>`(@br _ _ _ _ _ _ _ _ $a $b $c)
|`(Zn $a $b)=>`(@aB _ _ _ _ _ $a $b)
|`(Zo $a $b $c)=>`(@bX _ $a _ _ _ _ _ _ _ $b $c (by rfl) (by rfl))
|`(Zp $a)=>`(Option.some.inj $a)
set_option hygiene false in
local macro_rules
|`(iV)=>`(⟨rfl,rfl,rfl,by decide+kernel,rfl,by decide+kernel,by decide+kernel⟩)
|`(AS)=>`(⟨rfl,by decide+kernel,by decide+kernel,by decide+kernel,rfl,rfl,by decide+kernel,by decide+kernel,by decide+kernel⟩)
|`(iW)=>`((fun gw A outer s H vs Q E hr h hX=>?_))
|`(Zq)=>`((by lia))
|`(Zr)=>`((by simp))
|`(Zs)=>`((fun vs H Q E h=>?_))
|`(Zt)=>`((by exact rfl))
|`(Zu)=>`(by omega)
|`(Zv)=>`(by decide)
|`(Zw)=>`(by rfl)
|`(Zx)=>`(by simp)
set_option maxHeartbeats 4000000
namespace HD
open PySem PySem.W PyProof.Rows
noncomputable section
noncomputable abbrev pw:Program:=PySem.Challenge.pw_quotefind_k29_alike
noncomputable abbrev pq:Program:=pw
theorem Vk:pw=pq:=rfl
def z0:Str:=⟨⟨[60,109,111,100,117,108,101,62]⟩⟩
def z1:Str:=⟨⟨[95,95,109,97,105,110,95,95]⟩⟩
def SQ:Str:=⟨⟨[47,99,108,97,105,109,47,99,117,116,46,112,121]⟩⟩
noncomputable abbrev y0:String:=PySem.W.SL.s658472552662922059x5
noncomputable abbrev Vl:String:=PySem.W.SL.s5856160107412720595x4
noncomputable abbrev R(a:Addr):Value:= .ref a
noncomputable abbrev I(i:Int):Value:= .int i 0
noncomputable abbrev N:Value:= .none
noncomputable abbrev U(v:Value):Option Value:=some v
noncomputable abbrev B:=BT.node
noncomputable abbrev L:=BT.nil
noncomputable abbrev tu(l:List Value):Obj:=⟨.type "tuple",none, .seq ⟨l⟩ 0,⟨[]⟩⟩
noncomputable abbrev fi(l:List Value):Obj:=⟨.none,none, .fields ⟨l⟩,⟨[]⟩⟩
noncomputable abbrev cd(n:Str)(t:Nat)(l a f:Int)(r8:Addr)(b:Bool)(Vm:Addr)(Vn Vo Vp:Value)(t3:Int)(t4:Nat):Obj:=⟨.type Vl,none, .fields ⟨[.str n t, .str n (t+1), .str SQ (t+2),I l,I a,I 0,I 0,I f,R r8, .bool b,I 181,R Vm,N,Vn,Vo,Vp,I t3,I l, .str SQ t4]⟩,⟨[]⟩⟩
noncomputable def tp(p:Program)(i:Nat):Stmt:=p.main.body.getD i (.Pass ⟨0,0,0,0⟩)
noncomputable def b0(_:Program)(P:Params):Obj:=PySem.W.boot_o_0 P
noncomputable def b1(_:Program)(P:Params):Obj:=PySem.W.boot_o_1 P
noncomputable def b2(_:Program)(P:Params):Obj:=PySem.W.boot_o_2 P
noncomputable def b3(_:Program)(P:Params):Obj:=PySem.W.boot_o_3 P
noncomputable def b4(_:Program)(P:Params):Obj:=PySem.W.boot_o_4 P
noncomputable def b5(_:Program)(P:Params):Obj:=PySem.W.boot_o_5 P
noncomputable def b6(_:Program)(P:Params):Obj:=PySem.W.boot_o_6 P
noncomputable def b7(_:Program)(P:Params):Obj:=PySem.W.boot_o_7 P
noncomputable def b8(_:Program)(P:Params):Obj:=PySem.W.boot_o_8 P
noncomputable def b9(_:Program)(P:Params):Obj:=PySem.W.boot_o_9 P
noncomputable def SR(_:Program)(P:Params):Obj:=PySem.W.boot_o_10 P
noncomputable def SS(p:Program)(P:Params):Obj:=tu []
noncomputable def SU(p:Program)(P:Params):Obj:=fi []
noncomputable def SV(p:Program)(P:Params):Obj:=cd z0 182 1 0 0 11 false 12 N N N 185 186
noncomputable def SW(p:Program)(P:Params):Obj:=⟨(.type y0),none,.plain,⟨[U (R 13),U (R 3),U (R 3),none,U (.str z1 164),none,U (R 0)]⟩⟩
noncomputable def La(p:Program)(P:Params):List Obj:=[b0 p P,b1 p P,b2 p P,b3 p P,b4 p P,b5 p P,b6 p P,b7 p P,b8 p P,b9 p P,SR p P,SS p P,SU p P,SV p P,SW p P]
noncomputable def Ta(p:Program)(P:Params):BT:=(B (b0 p P) (B (b1 p P) (B (b3 p P) (B (b7 p P) L L) (B (SS p P) L L)) (B (b5 p P) (B (b9 p P) L L) (B (SV p P) L L))) (B (b2 p P) (B (b4 p P) (B (b8 p P) L L) (B (SU p P) L L)) (B (b6 p P) (B (SR p P) L L) (B (SW p P) L L))))
noncomputable def keep:List Nat:=[0,2,3,4,5,6,7,8,9,10,11,12,13,14,15,16,18,19,20,22,23,24,25,27,28,30,31,32,33,34,35,36,38,39,40,42,43,44,45,46,47,48,49,51,52,53,54,55,56,57,58,59,60]
noncomputable def loose:List Str:=[]
noncomputable def env(p:Program):Env:={scope:=p.main.scope,locals:=mainNs,globals:=mainNs,cells:=[],code:=(R 13),frame:=some 14}
noncomputable def cE(p:Program):Code:= .body (behindTheImports p) (env p)
noncomputable def qP:Pos:=⟨0,0,0,0⟩
noncomputable def pP:Pos:=⟨0,0,0,0⟩
noncomputable def bP:Pos:=⟨0,0,0,0⟩
noncomputable def fP:Pos:=⟨349,0,381,15⟩
noncomputable def an:Option Value:=(some (R 6))
noncomputable abbrev LO:Nat:=60
noncomputable abbrev m0:Nat:=11
noncomputable abbrev LP:Nat:=12
noncomputable abbrev LQ:Nat:=1
noncomputable abbrev IJ:Nat:=5759
noncomputable abbrev IK:Nat:=2
noncomputable abbrev IL:Nat:=12242
noncomputable abbrev nA:Nat:=15
noncomputable abbrev Vq:Nat:=187
noncomputable abbrev Vr:Nat:=187
end
end HD
namespace HD
open PySem PySem.W PyProof.Rows
noncomputable section
abbrev S0(w:World)(os:OsState):Shared:=⟨boot_heap w.params,⟨[]⟩,boot_drawn,boot_toks,os⟩
abbrev Sa(p:Program)(w:World)(os:OsState):Shared:=⟨⟨⟨La p w.params⟩,{}⟩,⟨[]⟩,{},Vq,os⟩
abbrev Sb(p:Program)(w:World)(os:OsState):SharedT:=⟨Ta p w.params,nA,{},⟨[]⟩,{},Vr,os⟩
abbrev q(p:Program):Program:=view p keep
abbrev Xt(p:Program)(R:WRecords):Shared→Bool:=fun s=>xlAt (q p) [] s&&recOk R s
theorem LR(w:World)(os:OsState):topGo treeTable pq w m0 an LP (S0 w os) (topStub pq)=some (Sa pq w os,⟨denote treeTable (cE pq),cE pq,pP,[topFrame qP]⟩):=by
 rewrite[Fast.te15667345088766844465,Fast.te14364793385576792824,Fast.te11892475500146522536];kernel_rfl
theorem LS(w:World)(os:OsState):segRun treeTable pq w m0 an 1 LQ (Sa pq w os) (blockOf (behindTheImports pq) (env pq) (cE pq) pP [topFrame qP])=some (.next,(Sb pq w os).abs,cE pq,bP):=by
 rewrite[Fast.te14374325043358763698,Fast.te14364793385576792824];kernel_rfl
def Rm(w:World)(os:OsState):=Fast.tw10110043849684766642 Fast.tw14364793385576792824 pq w m0 an 1 IJ (Sb pq w os) (piecesOf (behindTheImports pq) (env pq) (cE pq) bP [topFrame qP])
def Sm(w:World)(os:OsState):SharedT:=match Rm w os with|some (_,s,_,_)=>s|none=>Sb pq w os
theorem LU(w:World)(os:OsState):segRunT treeTable pq w m0 an 1 IJ (Sb pq w os) (piecesOf (behindTheImports pq) (env pq) (cE pq) bP [topFrame qP])=some (.next,Sm w os,cE pq,fP):=by
 rewrite[Fast.te10110043849684766642,Fast.te14364793385576792824];kernel_rfl
def Rf(w:World)(os:OsState):=Fast.tw14082659384304107361 Fast.tw14364793385576792824 pq w m0 an IK (Sm w os).abs ⟨doneF .next,cE pq,fP,[topFrame qP]⟩
def Sf(w:World)(os:OsState):Shared:=match Rf w os with|some s=>s|none=>S0 w os
theorem LV(w:World)(os:OsState):topRun treeTable pq w m0 an IK (Sm w os).abs ⟨doneF .next,cE pq,fP,[topFrame qP]⟩=some (Sf w os):=by
 rewrite[Fast.te14082659384304107361,Fast.te14364793385576792824];kernel_rfl
theorem IM(w:World):((boot_heap w.params).isNs mainGlobals&&(⟨[]⟩:Array GenState).size==0,(boot_heap w.params).objs.size,(boot_heap w.params).nsMap mainGlobals "__annotations__")=(true,m0,an):=by
 rewrite[Fast.te8920871248978507458];kernel_rfl
theorem IP:∀w:World,(fencedOpening treeTable pq w IL).map (fun s=>(s.heap,s.gens,s.drawn,s.toks))=some (boot_heap w.params,⟨[]⟩,boot_drawn,boot_toks):=
 boot_open (by kernel_rfl) (by kernel_rfl) (fun s=>by kernel_rfl)
theorem LW(w:World)(os:OsState):topRun treeTable pq w m0 an (LP+(LQ+(IJ+IK))) (S0 w os) (topStub pq)=some (Sf w os):=by
 refine go_top (LR w os) (piece_block (LS w os) ?_);have h:=piece_app (rest:=[]) (segRun_of (LU w os)) (piece_nil (env:=env pq) (LV w os));rw[List.append_nil]at h;exact h
theorem Cq(w:World)(os:OsState):
 (staticsOk (importedModules pq.main.body) (boot_heap w.params) (Sf w os).heap&&namesBound pq (Sf w os).heap&&gensDone (Sf w os)&&laidKept (boot_heap w.params) (Sf w os).heap)=true
 ∧seen ((recsOf (q pq)).map (·.name)) (ownsOf (q pq)) [] {Sf w os with gens:=#[]}=expectedOf (q pq)
 ∧(Sf w os).heap.bltView=bltViewBooted:=by
 refine⟨?_,?_,?_⟩
 ·rewrite[Fast.te5923862056798008813];kernel_rfl
 ·rewrite[Fast.te5160383126252970620,Fast.te3399658132070893891,Fast.te5991557255702980513];kernel_rfl
 ·kernel_rfl
theorem IQ(w:World)(os:OsState):
 ((Sf w os).heap.keysOk (looseW (q pq) loose) ((recsOf (q pq)).map (·.name)) ((litsOf (q pq)).map (·.1)) ((clssOf (q pq) (looseW (q pq) loose)).map (·.name))&&(Sf w os).heap.accountedOkI (importedModules pq.main.body)&&(Sf w os).heap.isNs mainGlobals&&(Sf w os).heap.isNs builtinsNs&&tablesOk (q pq) (Sf w os).heap&&Xt pq [] (Sf w os)&&(if true then(Sf w os).gens.size==0 else !leftWithCleanup (Sf w os).gens))=true:=by
 rewrite[Fast.te10880121769531294198,Fast.te821141287760084731,Fast.te3399658132070893891,Fast.te7409074990110511671,Fast.te13664370479719496447,Fast.te14722251495701143533,Fast.te5923862056798008813,Fast.te10994771534591457954];kernel_rfl
theorem IS(w:World)(os:OsState):
 tabsOk (q pq) (Sf w os)=true
 ∧pinSeenD (q pq) (drecsOf (q pq)) (Sf w os)=pinGoodD (drecsOf (q pq))
 ∧plainSeenE (q pq) (looseW (q pq) loose) (Sf w os)=plainGoodE (q pq) (looseW (q pq) loose)
 ∧plainSeenD (q pq) loose (Sf w os)=plainGoodD (q pq) loose
 ∧wideSeen (q pq) (Sf w os)=wideGood (q pq)
 ∧clsSeenW (q pq) loose (Sf w os)=clsGoodW (q pq) loose:=by
 refine⟨?_,?_,?_,?_,?_,?_⟩
 ·rewrite[Fast.te479339242167458305];kernel_rfl
 ·rewrite[Fast.te16090120013241838585,Fast.te3247288618530077131];kernel_rfl
 ·rewrite[Fast.te2386780881361962483,Fast.te821141287760084731];kernel_rfl
 ·rewrite[Fast.te11698064438423848299];kernel_rfl
 ·rewrite[Fast.te7317090234206586261];kernel_rfl
 ·rewrite[Fast.te7369524293546568484];kernel_rfl
theorem lx{p q:Program}{lo:List Str}{Xt:Shared→Bool}{α:Type}{Yf:Shared→α}{a:α}{w:World}{N M n:Nat}{h:Heap}{gs:Array GenState}{dr:Drawn}{k:Nat}{an:Option Value}{g:OsState→Shared}
  (o:(fencedOpening treeTable p w N).map (fun s=>(s.heap,s.gens,s.drawn,s.toks))=some (h,gs,dr,k)) (z:(h.isNs mainGlobals&&gs.size==0,h.objs.size,h.nsMap mainGlobals "__annotations__")=(true,n,an))
  (r:∀os,topRun treeTable p w n an M ⟨h,gs,dr,k,os⟩ (topStub p)=some (g os)) (le:M≤N) (x1:∀os,(staticsOk (importedModules p.main.body) h (g os).heap&&namesBound p (g os).heap&&gensDone (g os)&&laidKept h (g os).heap)=true)
  (x2:∀os,openSeen q lo (importedModules p.main.body) Xt true (g os)=openGood q lo) (x3:∀os,Yf (g os)=a):(openEnds treeTable p w N).map (fun s=>(openSeen q lo (importedModules p.main.body) Xt true s,Yf s))=some (openGood q lo,a):=by
 obtain⟨⟨h,gs,dr,k,os⟩,e1,e2⟩:=Option.map_eq_some_iff.mp o;cases e2;obtain⟨y1,y2⟩:=Prod.mk.inj z;obtain⟨y2,y3⟩:=Prod.mk.inj y2;have t:=topRun_mono (N-M) _ _ _ _ (r os);rw[Nat.add_sub_cancel' le]at t;have f:topFrom treeTable p w N ⟨h,gs,dr,k,os⟩=some (g os):=by
  unfold topFrom;dsimp only;rw[y1,y2,y3,t];show(match staticsOk _ h (g os).heap&&namesBound p (g os).heap&&gensDone (g os)&&laidKept h (g os).heap with|true=>_|false=>_)=_;rw[x1 os]
 unfold openEnds;rw[e1,Option.bind_some,f];exact congrArg some (Prod.ext (x2 os) (x3 os))
theorem left(p:Program)(e:p=pq)(H:Hook)(hk:∀w os,H.obs (Sf w os)=H.val w):LeftO p (q p) loose (Xt p []) H.obs H.val IL:=by
 subst e;intro w;exact lx (g:=Sf w) (IP w) (IM w) (LW w) (Zv) (fun os=>(Cq w os).1) (fun os=>let ⟨_,x2,x3⟩:=Cq w os;let ⟨x5,x6,x7,x8,x9,x0⟩:=IS w os;looks_pair x2 (looks_pair x3 (looks_pair (IQ w os) (looks_pair x5 (looks_pair x6 (looks_pair x7 (looks_pair x8 (looks_pair x9 x0)))))))) (hk w)
def d:DefRec:=match tp pw LO with
 | .FunctionDef n a b _ _ _ sc _ _ ps=>⟨n,a,b,sc,ps⟩
 | _=>⟨Str.empty,default,[],default,default⟩
end
end HD
namespace HD
theorem ws:PySem.W.OpenLaw.wellSaid PySem.Challenge.rw_quotefind_k29_alike=true:=by
 rewrite[PySem.W.Fast.te9446332074065402090];kernel_rfl
end HD
namespace L2
open PySem PySem.Spec PyProof.Rows
abbrev Key:=Sum Int Str
def uy:Key→Value→Bool
 | .inl k,v=>Value.isInt k v
 | .inr x,v=>Value.isStrOf x v
def P9(w:World):Key→Int
 | .inl k=>hashInt k
 | .inr x=>hashStr w x
theorem cP:∀{k:Key}{v:Value},uy k v=true→(∃i t,k=Sum.inl i∧v=Value.int i t)∨(∃x t,k=Sum.inr x∧v=Value.str x t)
 | .inl i,v,h=>by
  obtain⟨t,e⟩:=Value.isInt_shape (k:=i) (v:=v) h;exact .inl ⟨i,t,rfl,e⟩
 | .inr x,v,h=>by
  obtain⟨t,e⟩:=Value.isStrOf_shape (x:=x) (v:=v) h;exact .inr ⟨x,t,rfl,e⟩
theorem AX(i:Int)(t:Tok):uy (.inl i) (.int i t)=true:=by simp[uy,Value.isInt]
theorem AY(x:Str)(t:Tok):uy (.inr x) (.str x t)=true:=by simp[uy,Value.isStrOf]
theorem IU(a b:Int):decide ((Sum.inl a:Key)=Sum.inl b)=(a==b):=by
 by_cases e:a=b
 ·subst e;simp
 ·have h:¬(Sum.inl a:Key)=Sum.inl b:=fun q=>e (Sum.inl.inj q)
  rw[decide_eq_false h];exact(beq_eq_false_iff_ne.mpr e).symm
theorem IV(a b:Str):decide ((Sum.inr a:Key)=Sum.inr b)=decide (a=b):=by
 by_cases e:a=b
 ·subst e;simp
 ·have h:¬(Sum.inr a:Key)=Sum.inr b:=fun q=>e (Sum.inr.inj q)
  rw[decide_eq_false h,decide_eq_false e]
theorem IW(a:Int)(b:Str):decide ((Sum.inl a:Key)=Sum.inr b)=false:=decide_eq_false (fun q=>nomatch q)
theorem IX(a:Str)(b:Int):decide ((Sum.inr a:Key)=Sum.inl b)=false:=decide_eq_false (fun q=>nomatch q)
def cQ(prog:Program)(w:World):PySem.KeyKind prog w Key where
 is:=uy
 hash:=P9 w
 inj:=fun v a b ha hb=>by
  rcases cP ha with⟨i,t,rfl,rfl⟩|⟨x,t,rfl,rfl⟩
  ·rcases cP hb with⟨j,u,rfl,e⟩|⟨y,u,rfl,e⟩
   ·injection e with e1 _;rw[e1]
   ·exact nomatch e
  ·rcases cP hb with⟨j,u,rfl,e⟩|⟨y,u,rfl,e⟩
   ·exact nomatch e
   ·injection e with e1 _;rw[e1]
 byValue:=fun k v h=>by
  rcases cP h with⟨i,t,rfl,rfl⟩|⟨x,t,rfl,rfl⟩<;>rfl
 pyHash:=fun hv h=>by
  rcases cP hv with⟨i,t,rfl,rfl⟩|⟨x,t,rfl,rfl⟩
  ·exact wpAny_pyHash_int h
  ·exact wpAny_pyHash_str h
 eqBool:=fun hu hv h=>by
  rcases cP hu with⟨i,t,rfl,rfl⟩|⟨x,t,rfl,rfl⟩
  ·rcases cP hv with⟨j,u,rfl,rfl⟩|⟨y,u,rfl,rfl⟩
   ·rw[IU]at h;exact wpAny_eqBool_int h
   ·rw[IW]at h;exact SeqAt.EqAt.int_str i t y u _ _ _ _ h
  ·rcases cP hv with⟨j,u,rfl,rfl⟩|⟨y,u,rfl,rfl⟩
   ·rw[IX]at h;exact SeqAt.EqAt.str_int x t j u _ _ _ _ h
   ·rw[IV]at h;exact wpAny_eqBool_str h
 «strs»:=fun k x t v h=>by
  rcases cP h with⟨i,u,rfl,e⟩|⟨y,u,rfl,e⟩
  ·exact nomatch e
  ·injection e with e1 _;subst e1;cases v<;>rfl
theorem wX(prog:Program)(w:World)(i:Int)(t:Tok):(cQ prog w).is (.inl i) (.int i t)=true:=AX i t
theorem wY(prog:Program)(w:World)(x:Str)(t:Tok):(cQ prog w).is (.inr x) (.str x t)=true:=AY x t
inductive V where
 |cn|bl (b:Bool)|int (i:Int)|str (x:Str)|AZ (b:Array UInt8)|Hr (b:UInt64)|ref (a:Addr)|ty (n:String)
 deriving DecidableEq
def RelV:V→Value→Prop
 | .cn,u=>u=Value.none
 | .bl b,u=>u=Value.bool b
 | .int i,u=>∃t,u=Value.int i t
 | .str x,u=>∃t,u=Value.str x t
 | .AZ b,u=>∃t,u=Value.bytes b t
 | .Hr b,u=>∃t,u=Value.float b t
 | .ref a,u=>u=Value.ref a
 | .ty n,u=>u=Value.type n
abbrev Vals:List V→List Value→Prop:=Paired RelV
theorem Vals.length{xs:List V}{us:List Value}(r:Vals xs us):xs.length=us.length:=Paired.length r
theorem Vals.get:∀{xs:List V}{us:List Value}{i:Nat}{x:V},Vals xs us→xs[i]?=some x→∃u,us[i]?=some u∧RelV x u
 | _,_,_,_, .nil,e=>by simp at e
 | _,_,0,_, .cons r _,e=>by simp at e;subst e;exact⟨_,rfl,r⟩
 | _,_,i+1,x, .cons _ t,e=>by
  obtain⟨u,h1,h2⟩:=Vals.get (i:=i) (x:=x) t (by simpa using e);exact⟨u,by simpa using h1,h2⟩
theorem Vals.set{x:V}{u:Value}(r:RelV x u):∀{xs:List V}{us:List Value}(i:Nat),Vals xs us→Vals (xs.set i x) (us.set i u)
 | _,_,_, .nil=> .nil
 | _,_,0, .cons _ t=> .cons r t
 | _,_,i+1, .cons q t=> .cons q (Vals.set r i t)
theorem Vals.append:∀{xs ys:List V}{us ws:List Value},Vals xs us→Vals ys ws→Vals (xs++ys) (us++ws)
 | _,_,_,_, .nil,s=>s
 | _,_,_,_, .cons r t,s=> .cons r (Vals.append t s)
def jX:Option V→Option Value→Prop
 |some v,some u=>RelV v u
 |none,none=>True
 | _,_=>False
def KV{κ:Type}:List (κ×V)→List (κ×Value)→Prop:=Paired fun(p:κ×V)(q:κ×Value)=>p.1=q.1∧RelV p.2 q.2
def kV:Key→V
 | .inl i=> .int i
 | .inr x=> .str x
inductive HO where
 |lst (xs:List V)
 |tup (xs:List V)
 |dK (kvs:List (Key×V))|dT (kvs:List (List Key×V))
 |set (S:Int→Bool) (n:Nat)
 |ins (C dx:Addr) (fs:List (Str×V))
 |own (x:Addr)
 |xd (fs:List (Str×V))
 |met (f x:Addr)
 |Oy (lo hi:Int)
 |q_ (o:Obj) (u:HO)
 |Fw (ps:Array Value)
 |ext (φ:Heap→Prop)
abbrev Hp:=Addr→Option HO
def upd(H:Hp)(a:Addr)(o:HO):Hp:=fun b=>if b=a then some o else H b
theorem ae{H:Hp}{a:Addr}{o:HO}:upd H a o a=some o:=by unfold upd;rw[if_pos rfl]
theorem ai{H:Hp}{a b:Addr}{o:HO}(h:b≠a):upd H a o b=H b:=by unfold upd;rw[Ze h]
theorem fQ{H:Hp}{a:Addr}{o u:HO}:upd (upd H a o) a u=upd H a u:=by
 funext b;unfold upd;split<;>rfl
theorem iI{H:Hp}{a b:Addr}{o u:HO}(h:H a=some o)(h':H b=some u)(d:o≠u):a≠b:=by
 intro e;subst e;rw[h]at h';exact d (Zp h')
theorem aA{H:Hp}{a b:Addr}{o:HO}(h:H a=some o)(h':H b=none):a≠b:=by
 intro e;subst e;rw[h]at h';cases h'
section
variable(P:Program)(w:World)
def cB(H:Hp)(h:Heap)(a:Addr):HO→Prop
 | .lst xs=>xs.length≤sizeLine∧∃(its:List Value)(n:Nat),Vals xs its∧h.get? a=some {cls:= .type "list",data:= .seq its.toArray n}
 | .tup xs=>xs.length≤sizeLine∧∃its:List Value,Vals xs its∧IsTup h a its.toArray
 | .dK kvs=>kvs.length≤sizeLine∧(a==sysModules)=false∧∃vs,KV kvs vs∧h.DictOf (cQ P w) a vs
 | .dT kvs=>kvs.length≤sizeLine∧(a==sysModules)=false∧∃xs:List (List Key×Addr×Value),
   Paired (fun(p:List Key×V)(q:List Key×Addr×Value)=>p.1=q.1∧H q.2.1=some (.tup (p.1.map kV))∧RelV p.2 q.2.2) kvs xs∧
   ∃o es ep,h.get? a=some o∧o.ExactDict∧o.data= .dict es ep∧es.toList=xs.map (entryOfKey (tupleKind (cQ P w)))∧(xs.map (·.1)).Nodup
 | .set S n=>h.SetOf (intKind P w) a S n
 | .ins C dx fs=>H dx=some (.own a)∧fs.length≤1000∧dx≠a∧h.get? a=some (PySem.W.instObj C dx)∧
   ∃mA,h.Ns1 dx mA∧(∀f,jX (fs.lookup f) (mA f))∧PySem.Within mA (fs.map (·.1))
 | .own _=>∃o,h.get? a=some o
 | .xd fs=>∃mA,h.Ns1 a mA∧∀f,jX (fs.lookup f) (mA f)
 | .Oy lo hi=>∃t u v,h.get? a=some {cls:= .type "range",data:= .fields #[.int lo t, .int hi u, .int 1 v]}
 | .q_ o u=>h.get? a=some o∧cB H h a u
 | .Fw ps=>h.get? a=some {cls:= .none,data:= .fields ps}
 | .met f x=>h.get? a=some (PySem.W.methodObj (.ref f) (.ref x))
 | .ext φ=>φ h∧(∃o,h.get? a=some o)∧∀h1 h2:Heap,φ h1→(∀o,h1.get? a=some o→h2.get? a=some o)→φ h2
def kF(H:Hp)(h:Heap):Prop:=∀a o,H a=some o→cB P w H h a o
end
section
variable{P:Program}{w:World}{H H':Hp}{h h':Heap}{a:Addr}{o:HO}
theorem cB.lt(x:cB P w H h a o):a<h.objs.size:=by
 cases o with
 |lst xs=>obtain⟨_,_,_,_,e⟩:=x;exact Heap.lt_size e
 |tup xs=>obtain⟨_,_,_,p⟩:=x;exact p.lt
 |dK kvs=>obtain⟨_,_,_,_,o,_,_,e,_⟩:=x;exact Heap.lt_size e
 |dT kvs=>obtain⟨_,_,_,_,o,_,_,e,_⟩:=x;exact Heap.lt_size e
 |set S n=>obtain⟨o,_,_,_,e,_⟩:=x;exact Heap.lt_size e
 |ins C dx fs=>obtain⟨_,_,_,e,_⟩:=x;exact Heap.lt_size e
 |own y=>obtain⟨_,e⟩:=x;exact Heap.lt_size e
 |xd fs=>obtain⟨_,⟨_,_,_,e,_⟩,_⟩:=x;exact Heap.lt_size e
 |Oy lo hi=>obtain⟨_,_,_,e⟩:=x;exact Heap.lt_size e
 |q_ ob u=>obtain⟨e,_⟩:=x;exact Heap.lt_size e
 |Fw ps=>exact Heap.lt_size (show h.get? a=some _ from x)
 |met f y=>exact Heap.lt_size (show h.get? a=some _ from x)
 |ext φ=>obtain⟨_,⟨_,e⟩,_⟩:=x;exact Heap.lt_size e
theorem Paired.IY{α β:Type}{F G:α→β→Prop}:∀{LX:List α}{LY:List β},Paired F LX LY→(∀a b,F a b→G a b)→Paired G LX LY
 | _,_, .nil,_=> .nil
 | _,_, .cons r t,f=> .cons (f _ _ r) (Paired.IY t f)
theorem cB.rE(x:cB P w H h a o)(k:∀b u,(b=a∨H b=some (.own a))→h.get? b=some u→h'.get? b=some u)
  (ho:∀b,H b=some (.own a)→H' b=some (.own a)) (ht:∀b xs,H b=some (.tup xs)→H' b=some (.tup xs)):cB P w H' h' a o:=by
 induction o with
 |lst xs=>obtain⟨z,its,n,r,e⟩:=x;exact⟨z,its,n,r,k _ _ (.inl rfl) e⟩
 |tup xs=>obtain⟨z,its,r,ob,e,c⟩:=x;exact⟨z,its,r,ob,k _ _ (.inl rfl) e,c⟩
 |dK kvs=>obtain⟨z,y,vs,r,ob,es,ep,e,c⟩:=x;exact⟨z,y,vs,r,ob,es,ep,k _ _ (.inl rfl) e,c⟩
 |dT kvs=>
  obtain⟨z,y,xs,r,ob,es,ep,e,c⟩:=x;exact⟨z,y,xs,Paired.IY r fun p q z=>⟨z.1,ht _ _ z.2.1,z.2.2⟩,ob,es,ep,k _ _ (.inl rfl) e,c⟩
 |set S n=>obtain⟨ob,es,ep,t,e,c⟩:=x;exact⟨ob,es,ep,t,k _ _ (.inl rfl) e,c⟩
 |ins C dx fs=>
  obtain⟨d,z,ne,e,mA,⟨od,es,ep,e2,c⟩,r⟩:=x;exact⟨ho _ d,z,ne,k _ _ (.inl rfl) e,mA,⟨od,es,ep,k _ _ (.inr d) e2,c⟩,r⟩
 |own y=>obtain⟨ob,e⟩:=x;exact⟨ob,k _ _ (.inl rfl) e⟩
 |xd fs=>obtain⟨mA,⟨od,es,ep,e,c⟩,r⟩:=x;exact⟨mA,⟨od,es,ep,k _ _ (.inl rfl) e,c⟩,r⟩
 |Oy lo hi=>obtain⟨t,u,v,e⟩:=x;exact⟨t,u,v,k _ _ (.inl rfl) e⟩
 |q_ ob u ih=>obtain⟨e,q⟩:=x;exact⟨k _ _ (.inl rfl) e,ih q⟩
 |Fw ps=>
  have e:h.get? a=some {cls:= .none,data:= .fields ps}:=x;show h'.get? a=some {cls:= .none,data:= .fields ps};exact k a _ (.inl rfl) e
 |met f y=>
  have e:h.get? a=some (PySem.W.methodObj (.ref f) (.ref y)):=x;show h'.get? a=some (PySem.W.methodObj (.ref f) (.ref y));exact k a _ (.inl rfl) e
 |ext φ=>obtain⟨p,⟨o,e⟩,st⟩:=x;exact⟨st _ _ p fun o q=>k _ _ (.inl rfl) q,⟨o,k _ _ (.inl rfl) e⟩,st⟩
theorem kF.lt(x:kF P w H h)(e:H a=some o):a<h.objs.size:=(x a o e).lt
theorem kF.fresh(x:kF P w H h)(e:h.objs.size≤a):H a=none:=by
 cases q:H a with
 |none=>rfl
 |some u=>exact absurd (Nat.lt_of_lt_of_le (x.lt q) e) (Nat.lt_irrefl _)
theorem kF.kept(x:kF P w H h)(k:∀b u,h.get? b=some u→h'.get? b=some u):kF P w H h':=fun a o e=>
 (x a o e).rE (fun b u _ q=>k b u q) (fun _ q=>q) fun _ _ q=>q
theorem kF.laid(x:kF P w H h)(k:∀b u,h.get? b=some u→h'.get? b=some u)(hp:h.objs.size≤a)(new:cB P w (upd H a o) h' a o):kF P w (upd H a o) h':=fun b u e=>by
 have hn:=x.fresh hp;by_cases hb:b=a
 ·subst hb;rw[ae]at e;cases e;exact new
 ·rw[ai hb]at e;exact(x b u e).rE (fun c v _ q=>k c v q) (fun c q=>by rw[ai (aA q hn)];exact q) fun c xs q=>by rw[ai (aA q hn)];exact q
end
def Rd(H:Hp)(a:Addr)(u:HO):Prop:=H a=some u∨∃o,H a=some (.q_ o u)
theorem Rd.of{H:Hp}{a:Addr}{u:HO}(h:H a=some u):Rd H a u:= .inl h
theorem Rd.ok{P:Program}{w:World}{H:Hp}{h:Heap}{a:Addr}{u:HO}(r:Rd H a u)(x:kF P w H h):cB P w H h a u:=by
 rcases r with r|⟨o,r⟩
 ·exact x a u r
 ·obtain⟨_,q⟩:=x a _ r;exact q
def LZ:Option HO→Prop
 |some (.lst _)=>True
 |some (.dK _)=>True
 |some (.dT _)=>True
 |some (.set _ _)=>True
 |some (.ins _ _ _)=>True
 |some (.ext _)=>True
 | _=>False
section
variable{P:Program}{w:World}{H:Hp}{h h':Heap}{x e:Addr}{o':HO}
theorem kF.write(ok:kF P w H h)(mu:LZ (H x))(he:e=x∨H e=some (.own x))(k:∀b u,b≠e→h.get? b=some u→h'.get? b=some u)(Lg:∃u,h'.get? e=some u)
  (new:cB P w (upd H x o') h' x o'):kF P w (upd H x o') h':=fun b u q=>by
 have L5:∀c y,H c=some (.own y)→c≠x:=fun c y r z=>by subst z;rw[r]at mu;exact mu
 have P_:∀c xs,H c=some (.tup xs)→c≠x:=fun c xs r z=>by subst z;rw[r]at mu;exact mu
 by_cases hb:b=x
 ·subst hb;rw[ae]at q;cases q;exact new
 ·rw[ai hb]at q;by_cases IZ:b=e
  ·have q':H b=some (.own x):=by
    rcases he with z|z
    ·exact absurd (IZ.trans z) hb
    ·rw[IZ];exact z
   rw[q]at q';cases q';obtain⟨v,hv⟩:=Lg;exact⟨v,by rw[IZ];exact hv⟩
  ·refine(ok b u q).rE (fun c v hc r=>k c v ?_ r) (fun c r=>by rw[ai (L5 c b r)];exact r) fun c xs r=>by rw[ai (P_ c xs r)];exact r
   rcases hc with rfl|hc
   ·exact IZ
   ·rintro rfl;rcases he with z|z
    ·exact L5 c b hc z
    ·rw[hc]at z;cases z;exact hb rfl
end
structure Un(fs ex:List Addr)(H H':Hp)(h h':Heap):Prop where
 keep:∀b o,h.get? b=some o→H b=none→b∉fs→b∉ex→h'.get? b=some o
 slot:∀b o,h.get? b=some o→H b=none→b∈fs→b∉ex→∃sl,h'.get? b=some {o with slots:=sl}
 free:∀b o,h.get? b=some o→H b=none→b∉ex→H' b=none
 there:∀b o,h.get? b=some o→b∉ex→∃o',h'.get? b=some o'
 cw:∀b xs,H b=some (.tup xs)→H' b=some (.tup xs)
 kM:∀b o u,H b=some (.q_ o u)→H' b=some (.q_ o u)
 mM:∀b ps,H b=some (.Fw ps)→∃more,H' b=some (.Fw (ps++more))
section
variable{fs Vs ex Yn:List Addr}{H H1 H2:Hp}{h h1 h2 h':Heap}{a x e:Addr}{o:HO}
theorem Un.any(u:Un fs ex H H1 h h1){b:Addr}{ob:Obj}(q:h.get? b=some ob)(n:H b=none)(hx:b∉ex):∃sl,h1.get? b=some {ob with slots:=sl}:=by
 by_cases hb:b∈fs
 ·exact u.slot b ob q n hb hx
 ·exact⟨ob.slots,u.keep b ob q n hb hx⟩
theorem Un.kept(k:∀b u,h.get? b=some u→h'.get? b=some u):Un fs ex H H h h':=
 ⟨fun b ob q _ _ _=>k b ob q,fun b ob q _ _ _=>⟨ob.slots,k b ob q⟩,fun _ _ _ n _=>n,fun b ob q _=>⟨ob,k b ob q⟩,fun _ _ q=>q,fun _ _ _ q=>q,fun _ ps q=>⟨#[],by rw[q];simp⟩⟩
theorem Un.refl:Un fs ex H H h h:=Un.kept fun _ _ q=>q
theorem Un.laid(k:∀b u,h.get? b=some u→h'.get? b=some u)(hp:h.objs.size≤a)(hn:H a=none):Un fs ex H (upd H a o) h h' where
 keep:=fun b u q _ _ _=>k b u q
 slot:=fun b u q _ _ _=>⟨u.slots,k b u q⟩
 free:=fun b u q n _=>by rw[ai (Nat.ne_of_lt (Nat.lt_of_lt_of_le (Heap.lt_size q) hp))];exact n
 there:=fun b u q _=>⟨u,k b u q⟩
 cw:=fun b xs q=>by rw[ai (aA q hn)];exact q
 kM:=fun b u xs q=>by rw[ai (aA q hn)];exact q
 mM:=fun b ps q=>⟨#[],by rw[ai (aA q hn),q];simp⟩
theorem Un.write(mu:LZ (H x))(he:e=x∨H e=some (.own x))(k:∀b u,b≠e→h.get? b=some u→h'.get? b=some u)(Lg:∃u,h'.get? e=some u):Un fs ex H (upd H x o) h h':=by
 have hx:∀b,H b=none→b≠x:=fun b n z=>by subst z;rw[n]at mu;exact mu
 have hb:∀b,H b=none→b≠e:=fun b n z=>by
  subst z;rcases he with r|r
  ·exact hx b n r
  ·rw[n]at r;cases r
 have hm:∀b u,H b=some u→¬LZ (some u)→b≠x:=fun b u q nm z=>by subst z;rw[q]at mu;exact nm mu
 refine⟨fun b u q n _ _=>k b u (hb b n) q,fun b u q n _ _=>⟨u.slots,k b u (hb b n) q⟩,fun b u q n _=>by rw[ai (hx b n)];exact n,fun b u q _=>?_,
  fun b xs q=>by rw[ai (hm b _ q fun z=>z)];exact q,fun b u xs q=>by rw[ai (hm b _ q fun z=>z)];exact q,fun b ps q=>⟨#[],by rw[ai (hm b _ q fun z=>z),q];simp⟩⟩
 by_cases IZ:b=e
 ·subst IZ;exact Lg
 ·exact⟨u,k b u IZ q⟩
end
def Oz(h:Heap)(H:Hp):List Addr:=(List.range h.objs.size).filter fun a=>(H a).isSome
def va(h:Heap)(H:Hp):Heap:=PySem.W.hideAll h (Oz h H)
theorem A0(h:Heap)(H:Hp):(va h H).objs.size=h.objs.size:=PySem.W.hideAll_size _ _
theorem Cr{h:Heap}{H:Hp}{b:Addr}{o:Obj}(e:h.get? b=some o)(n:H b=none):(va h H).get? b=some o:=
 PySem.W.hideAll_get _ e fun hm=>by
  have q:(H b).isSome=true:=(List.mem_filter.mp hm).2;rw[n]at q;simp at q
theorem Fx{h:Heap}{H:Hp}{b:Addr}{o:Obj}(e:(va h H).get? b=some o):h.get? b=some o∧H b=none:=by
 have e':h.get? b=some o:=PySem.W.of_hideAll (Oz h H) e;refine⟨e',?_⟩;cases q:H b with
 |none=>rfl
 |some x=>
  have hm:b∈Oz h H:=List.mem_filter.mpr ⟨List.mem_range.mpr (Heap.lt_size e'),by simp[q]⟩;have z:(va h H).get? b=none:=PySem.W.hideAll_none (Oz h H) hm;rw[z]at e;cases e
def Fy(g h:Heap)(L:Addr):List (Addr×Obj):=(List.range h.objs.size).filterMap fun a=>if a=L∨(g.get? a).isSome=true then none else(h.get? a).map fun o=>(a,o)
def rest(g h:Heap)(L d:Addr):List (Addr×Obj):=(Fy g h L).filter fun p=>decide (p.1≠d)
structure Mod(K:PySem.W.Frag)(mg:Str→Option Value)(base:Heap):Prop where
 Lh:K.In base
 glob:base.Ns mainGlobals mg
 blt:∃mb,base.Ns builtinsNs mb∧∀x:Str,x≠"__name__"→mb x=bootBuiltins x
 nolimit:base.NoLimit
structure Cx where
 prog:Program
 w:World
 K:PySem.W.Frag
 mg:Str→Option Value
 base:Heap
 A:Around
 N:List Str
 cL:Shared
 eD:Hp
 env:Env
 outer:List Env
 stack:List Env
 ex:List Addr
 fn:Str→Bool
 calm:Bool
 pn:List (Addr×Obj)
 xe:Value→Shared→Prop
def kN(l:List Env):List Addr:=l.filterMap (·.frame)
abbrev Cx.fs(X:Cx):List Addr:=kN X.outer
def Qa(sc:Scope)(x:Str):Prop:=sc.names.lookup x=some .local∨sc.names.lookup x=some .cell∨sc.names.lookup x=some .free
def Loc(sc:Scope)(x:Str):Prop:=sc.names.lookup x=some .local∨sc.names.lookup x=some .cell
def Look(env:Env)(h:Heap)(m:Str→Option Value)(x:Str)(u:Value):Prop:=
 (env.kindOf x=some .local∧m x=some u)∨((env.kindOf x=some .cell∨env.kindOf x=some .free)∧∃c,env.cells.lookup x=some c∧h.IsCell c (some u))
structure Cx.Ok(X:Cx):Prop where
 mod:Mod X.K X.mg X.base
 kind:X.env.scope.kind= .function
 glob:X.env.globals=mainGlobals
 blt:X.env.builtins=builtinsNs
 above:X.cL.heap.objs.size≤X.env.locals
 inj:∀x y c,X.env.cells.lookup x=some c→X.env.cells.lookup y=some c→x=y
 has:∀x,(X.env.kindOf x=some .cell∨X.env.kindOf x=some .free)→∃c,X.env.cells.lookup x=some c
 L6:∀x c,X.fn x=true→X.env.cells.lookup x=some c→X.cL.heap.objs.size≤c
 hd:X.calm=true→X.A.handled=none
 frames:X.A.frames=some X.stack
 OA:X.stack=X.outer∨(X.stack=X.env::X.outer∧X.env.frame=some X.env.locals)
 SX:∀b∈X.ex,b≠X.env.locals∧∀x c,X.env.cells.lookup x=some c→c≠b
 bs:∀b o,X.base.get? b=some o→X.cL.heap.get? b=some o∧X.eD b=none
 Fz:X.base.objs.size≤X.cL.heap.objs.size
 Cs:∀b o,X.base.get? b=some o→b∉X.ex
 FA:∀b∈X.ex,b∉X.fs
 qH:X.cL.heap.FunFrames X.base X.outer
 I_:∀b∈X.fs,X.eD b=none
structure Inv(X:Cx)(pins:List (Addr×Obj))(σ:List (Option V))(H:Hp)(s:Shared):Prop where
 ok:X.Ok
 os:s.os=X.cL.os
 bare:AllBare s.gens
 base:Un X.fs X.ex X.eD H X.cL.heap s.heap
 loc:∃m,s.heap.Ns X.env.locals m∧∀(i:Nat)(x:Str)(v:V),X.N[i]?=some x→σ[i]?=some (some v)→Qa X.env.scope x→∃u,RelV v u∧Look X.env s.heap m x u
 cell:∀x c,X.env.cells.lookup x=some c→∃v,s.heap.IsCell c v
 free:H X.env.locals=none
 ip:∀x c,X.env.cells.lookup x=some c→H c=none
 pin:∀p∈X.pn++pins,s.heap.get? p.1=some p.2∧H p.1=none∧p.1≠X.env.locals∧p.1∉X.fs∧∀v,p.2.data≠ .cell v
 bH:kF X.prog X.w H s.heap
 len:σ.length=X.N.length
section
variable{X:Cx}{pins:List (Addr×Obj)}{σ:List (Option V)}{H H':Hp}{s:Shared}{h':Heap}
theorem Cx.Ok.Qb(ok:X.Ok){b:Addr}{o:Obj}(e:X.base.get? b=some o):b∉X.fs:=fun hb=>by
 have:=(ok.qH.mem hb).1;rw[e]at this;cases this
theorem Inv.bs(I:Inv X pins σ H s):∀b o,X.base.get? b=some o→s.heap.get? b=some o∧H b=none:=fun b o e=>
 ⟨I.base.keep b o (I.ok.bs b o e).1 (I.ok.bs b o e).2 (I.ok.Qb e) (I.ok.Cs b o e),I.base.free b o (I.ok.bs b o e).1 (I.ok.bs b o e).2 (I.ok.Cs b o e)⟩
theorem Inv.bk(I:Inv X pins σ H s):∀b o,X.base.get? b=some o→s.heap.get? b=some o:=fun b o e=>(I.bs b o e).1
theorem Inv.mod(I:Inv X pins σ H s):Mod X.K X.mg X.base:=I.ok.mod
theorem Inv.nI(I:Inv X pins σ H s):X.K.In s.heap:=I.ok.mod.Lh.keeps I.bk
theorem Inv.lt(I:Inv X pins σ H s):X.env.locals<s.heap.objs.size:=let ⟨_,hn,_⟩:=I.loc;hn.lt
theorem Inv.sz(I:Inv X pins σ H s):X.cL.heap.objs.size≤s.heap.objs.size:=Nat.le_trans I.ok.above (Nat.le_of_lt I.lt)
theorem Inv.Qc(I:Inv X pins σ H s){a:Addr}(h:s.heap.objs.size≤a):a∉X.fs:=fun hb=>by
 obtain⟨_,o,ho,_⟩:=I.ok.qH.mem hb;exact absurd (Nat.lt_of_lt_of_le (Heap.lt_size ho) (Nat.le_trans I.sz h)) (Nat.lt_irrefl _)
theorem Inv.Ct(I:Inv X pins σ H s):∀x c,X.env.cells.lookup x=some c→c≠X.env.locals:=fun x c e z=>by
 obtain⟨v,o,ho,hd⟩:=I.cell x c e;obtain⟨m,⟨o',es,ep,A3,yo,_⟩,_⟩:=I.loc;rw[z,A3]at ho;cases ho;rw[yo]at hd;cases hd
theorem Inv.qH(I:Inv X pins σ H s):s.heap.FunFrames X.base X.outer:=by
 have all:∀(l:List Env),(∀b∈kN l,b∈X.fs)→X.cL.heap.FunFrames X.base l→s.heap.FunFrames X.base l:=by
  intro l
  induction l with
  |nil=>intro _ _;trivial
  |cons env r ih=>
   intro hs hl;obtain⟨hk,⟨L,o,hf,hn,ho,hd⟩,hr⟩:=hl;have hL:L∈X.fs:=hs L (by unfold kN;rw[List.filterMap_cons,hf];exact List.mem_cons_self);obtain⟨sl,e⟩:=I.base.slot L o ho (I.ok.I_ L hL) hL fun z=>I.ok.FA L z hL
   exact⟨hk,⟨L,_,hf,hn,e,hd⟩,ih (fun b hb=>hs b (by unfold kN;rw[List.filterMap_cons,hf];exact List.mem_cons_of_mem _ hb)) hr⟩
 exact all X.outer (fun _ hb=>hb) I.ok.qH
theorem Inv.stack(I:Inv X pins σ H s):s.heap.FunFrames X.base X.stack:=by
 rcases I.ok.OA with e|⟨e,hf⟩
 ·rw[e];exact I.qH
 ·rw[e];obtain⟨m,hn,_⟩:=I.loc;refine .cons (by rw[I.ok.kind];decide) hf hn ?_ I.qH;exact Heap.get?_none_of_le (Nat.le_trans I.ok.Fz I.ok.above)
theorem Inv.rF(I:Inv X pins σ H s):∀b∈kN X.stack,b∈X.env.locals::X.fs:=fun b hb=>by
 rcases I.ok.OA with e|⟨e,hf⟩
 ·rw[e]at hb;exact List.mem_cons_of_mem _ hb
 ·rw[e]at hb;unfold kN at hb;rw[List.filterMap_cons,hf]at hb;exact hb
theorem Inv.vc(I:Inv X pins σ H s):∀b∈kN X.stack,H b=none:=fun b hb=>by
 rcases List.mem_cons.mp (I.rF b hb)with e|hb
 ·rw[e];exact I.free
 ·obtain⟨_,o,ho,_⟩:=I.ok.qH.mem hb;exact I.base.free b o ho (I.ok.I_ b hb) fun z=>I.ok.FA b z hb
theorem Inv.step{g':Array GenState}{t':Nat}{d':Drawn}{ch:List Addr}(I:Inv X pins σ H s)
  (Fb:∀b∈ch,(b∈X.ex∨X.cL.heap.objs.size≤b)∧b≠X.env.locals∧(∀x c,X.env.cells.lookup x=some c→c≠b)∧∀p∈X.pn++pins,p.1≠b)
  (keep:∀b o,b≠X.env.locals→b∉X.fs→b∉ch→s.heap.get? b=some o→H b=none→h'.get? b=some o)
  (slot:∀b o,b≠X.env.locals→b∈X.fs→b∉ch→s.heap.get? b=some o→H b=none→∃sl,h'.get? b=some {o with slots:=sl}) (free:∀b o,b∉ch→s.heap.get? b=some o→H b=none→H' b=none)
  (there:∀b o,b∉ch→s.heap.get? b=some o→∃o',h'.get? b=some o')
  (cw:∀b xs,H b=some (.tup xs)→H' b=some (.tup xs)) (kM:∀b o u,H b=some (.q_ o u)→H' b=some (.q_ o u)) (mM:∀b ps,H b=some (.Fw ps)→∃more,H' b=some (.Fw (ps++more)))
  (ns:∀m,s.heap.Ns X.env.locals m→h'.Ns X.env.locals m) (bH:kF X.prog X.w H' h') (hg:AllBare g'):
  Inv X pins σ H' {s with heap:=h',gens:=g',drawn:=d',toks:=t'}:=by
 have SY:∀b o,X.cL.heap.get? b=some o→b≠X.env.locals:=fun b o e=>Nat.ne_of_lt (Nat.lt_of_lt_of_le (Heap.lt_size e) I.ok.above)
 have OB:∀b o,X.cL.heap.get? b=some o→b∉X.ex→b∉ch:=fun b o e hx hb=>by
  rcases(Fb b hb).1 with z|z
  ·exact hx z
  ·exact absurd (Nat.lt_of_lt_of_le (Heap.lt_size e) z) (Nat.lt_irrefl _)
 have cellK:∀x c,X.env.cells.lookup x=some c→∀v,s.heap.IsCell c v→h'.IsCell c v:=fun x c e v ⟨o,ho,hd⟩=>by
  have L7:c∉ch:=fun z=>(Fb c z).2.2.1 x c e rfl
  by_cases hc:c∈X.fs
  ·obtain⟨sl,q⟩:=slot c o (I.Ct x c e) hc L7 ho (I.ip x c e);exact⟨_,q,hd⟩
  ·exact⟨o,keep c o (I.Ct x c e) hc L7 ho (I.ip x c e),hd⟩
 refine⟨I.ok,I.os,hg,⟨fun b o e n hb hx=>?_,fun b o e n hb hx=>?_,fun b o e n hx=>?_,fun b o e hx=>?_,fun b xs e=>cw b xs (I.base.cw b xs e),fun b o xs e=>kM b o xs (I.base.kM b o xs e),fun b ps e=>?_⟩,?_,fun x c e=>?_,?_,fun x c e=>?_,fun p hp=>?_,bH,I.len⟩
 ·exact keep b o (SY b o e) hb (OB b o e hx) (I.base.keep b o e n hb hx) (I.base.free b o e n hx)
 ·obtain⟨sl,e1⟩:=I.base.slot b o e n hb hx;obtain⟨L8,e2⟩:=slot b _ (SY b o e) hb (OB b o e hx) e1 (I.base.free b o e n hx);exact⟨L8,e2⟩
 ·obtain⟨o',e1⟩:=I.base.there b o e hx;exact free b o' (OB b o e hx) e1 (I.base.free b o e n hx)
 ·obtain⟨o',e1⟩:=I.base.there b o e hx;exact there b o' (OB b o e hx) e1
 ·obtain⟨m1,e1⟩:=I.base.mM b ps e;obtain⟨m2,e2⟩:=mM b _ e1;exact⟨m1++m2,by rw[e2,Array.append_assoc]⟩
 ·obtain⟨m,hn,hl⟩:=I.loc;refine⟨m,ns m hn,fun i x v e1 e2 e3=>?_⟩;obtain⟨u,r,l⟩:=hl i x v e1 e2 e3;refine⟨u,r,?_⟩;rcases l with l|⟨k,c,e,z⟩
  ·exact .inl l
  ·exact .inr ⟨k,c,e,cellK x c e _ z⟩
 ·obtain⟨v,z⟩:=I.cell x c e;exact⟨v,cellK x c e v z⟩
 ·obtain⟨m,⟨o,_,_,ho,_⟩,_⟩:=I.loc;exact free _ o (fun z=>(Fb _ z).2.1 rfl) ho I.free
 ·obtain⟨v,o,ho,hd⟩:=I.cell x c e;exact free c o (fun z=>(Fb c z).2.2.1 x c e rfl) ho (I.ip x c e)
 ·obtain⟨e,n,ne,nf,d⟩:=I.pin p hp;have L7:p.1∉ch:=fun z=>(Fb p.1 z).2.2.2 p hp rfl
  exact⟨keep p.1 p.2 ne nf L7 e n,free p.1 p.2 L7 e n,ne,nf,d⟩
theorem Inv.un{t':Nat}(I:Inv X pins σ H s)(u:Un X.fs [] H H' s.heap h')(bH:kF X.prog X.w H' h'):Inv X pins σ H' {s with heap:=h',toks:=t'}:=by
 obtain⟨m,⟨o,es,ep,ho,r⟩,_⟩:=id I.loc;obtain⟨sl,hL⟩:=u.any ho I.free Zr;exact I.step (g':=s.gens) (d':=s.drawn) (ch:=[]) (fun _ z=>nomatch z) (fun b o _ hb _ e n=>u.keep b o e n hb Zr) (fun b o _ hb _ e n=>u.slot b o e n hb Zr) (fun b o _ e n=>u.free b o e n (Zx)) (fun b o _ e=>u.there b o e Zr) u.cw u.kM u.mM (fun m' hm=>by
  obtain⟨o',OC,OD,A3,r'⟩:=hm;rw[ho]at A3;cases A3;exact⟨_,OC,OD,hL,r'⟩) bH I.bare
theorem Inv.call{g':Array GenState}{t':Nat}{d':Drawn}{ch:List Addr}(I:Inv X pins σ H s)(u:Un (kN X.stack) ch H H' s.heap h')(bH:kF X.prog X.w H' h')(hg:AllBare g')
  (Fb:∀b∈ch,(b∈X.ex∨X.cL.heap.objs.size≤b)∧b≠X.env.locals∧(∀x c,X.env.cells.lookup x=some c→c≠b)∧∀p∈X.pn++pins,p.1≠b):
  Inv X pins σ H' {s with heap:=h',gens:=g',drawn:=d',toks:=t'}:=by
 obtain⟨m,⟨o,es,ep,ho,r⟩,_⟩:=id I.loc;obtain⟨sl,hL⟩:=u.any ho I.free fun z=>(Fb _ z).2.1 rfl
 exact I.step (ch:=ch) Fb (fun b o hL hb hc e n=>u.keep b o e n (fun z=>(List.mem_cons.mp (I.rF b z)).elim hL hb) hc) (fun b o _ _ hc e n=>u.any e n hc) (fun b o hc e n=>u.free b o e n hc) (fun b o hc e=>u.there b o e hc) u.cw u.kM u.mM (fun m' hm=>by
  obtain⟨o',OC,OD,A3,r'⟩:=hm;rw[ho]at A3;cases A3;exact⟨_,OC,OD,hL,r'⟩) bH hg
theorem Inv.turned{t':Nat}{it:Addr}(I:Inv X pins σ H s)(k:∀b o,b≠it→s.heap.get? b=some o→h'.get? b=some o)(hn:H it=none)(hL:it≠X.env.locals)
  (h1:it∈X.ex∨X.cL.heap.objs.size≤it) (h2:∀x c,X.env.cells.lookup x=some c→c≠it) (h3:∀p∈X.pn++pins,p.1≠it):Inv X pins σ H {s with heap:=h',toks:=t'}:=by
 have Hs:∀b u,H b=some u→b≠it:=fun b u e z=>by rw[z,hn]at e;cases e
 refine I.step (g':=s.gens) (d':=s.drawn) (ch:=[it]) (fun b hb=>?_) (fun b o _ _ hc e _=>k b o (fun z=>hc (by simp[z])) e) (fun b o _ _ hc e _=>⟨o.slots,k b o (fun z=>hc (by simp[z])) e⟩) (fun _ _ _ _ n=>n)
  (fun b o hc e=>⟨o,k b o (fun z=>hc (by simp[z])) e⟩) (fun _ _ e=>e) (fun _ _ _ e=>e) (fun b ps e=>⟨#[],by rw[e];simp⟩) (fun m hm=>?_) (fun b u e=>?_) I.bare
 ·have e:b=it:=by simpa using hb
  subst e;exact⟨h1,hL,h2,h3⟩
 ·obtain⟨o,es,ep,ho,r⟩:=hm;exact⟨o,es,ep,k _ o (Ne.symm hL) ho,r⟩
 ·refine(I.bH b u e).rE (fun c v hc q=>k c v ?_ q) (fun _ q=>q) fun _ _ q=>q
  rcases hc with z|z
  ·rw[z];exact Hs b u e
  ·exact Hs c _ z
theorem Inv.tok(I:Inv X pins σ H s)(t:Nat):Inv X pins σ H {s with toks:=t}:=I.un (h':=s.heap) (t':=t) Un.refl I.bH
theorem Inv.kept{t':Nat}(I:Inv X pins σ H s)(k:∀b u,s.heap.get? b=some u→h'.get? b=some u):Inv X pins σ H {s with heap:=h',toks:=t'}:=I.un (Un.kept k) (I.bH.kept k)
theorem Inv.laid{a:Addr}{o:HO}{t':Nat}(I:Inv X pins σ H s)(k:∀b u,s.heap.get? b=some u→h'.get? b=some u)(hp:s.heap.objs.size≤a)(new:cB X.prog X.w (upd H a o) h' a o):
  Inv X pins σ (upd H a o) {s with heap:=h',toks:=t'}:=I.un (Un.laid k hp (I.bH.fresh hp)) (I.bH.laid k hp new)
theorem Inv.write{x e:Addr}{o:HO}{t':Nat}(I:Inv X pins σ H s)(mu:LZ (H x))(he:e=x∨H e=some (.own x))(k:∀b u,b≠e→s.heap.get? b=some u→h'.get? b=some u)(Lg:∃u,h'.get? e=some u)
  (new:cB X.prog X.w (upd H x o) h' x o):Inv X pins σ (upd H x o) {s with heap:=h',toks:=t'}:=I.un (Un.write mu he k Lg) (I.bH.write mu he k Lg new)
theorem Inv.zL{wZ:List (Addr×Obj)}(I:Inv X pins σ H s)(h:∀p∈wZ,s.heap.get? p.1=some p.2∧H p.1=none∧p.1≠X.env.locals∧p.1∉X.fs∧∀v,p.2.data≠ .cell v):Inv X wZ σ H s:=
 ⟨I.ok,I.os,I.bare,I.base,I.loc,I.cell,I.free,I.ip,fun p hp=>(List.mem_append.mp hp).elim (fun z=>I.pin p (List.mem_append_left _ z)) (h p),I.bH,I.len⟩
theorem rG{N:List Str}(hN:N.Nodup){i j:Nat}{x:Str}(a:N[i]?=some x)(b:N[j]?=some x):i=j:=by
 obtain⟨h1,e1⟩:=Y' a;obtain⟨h2,e2⟩:=Y' b;exact(List.getElem_inj hN).mp (e1.trans e2.symm)
theorem uz{M:Model}{A:Around}{E:Value→Shared→Prop}{i:Nat}{x:Str}{v:V}{u:Value}{Q:Unit→Shared→Prop}(I:Inv X pins σ H s)(hN:X.N.Nodup)(hi:X.N[i]?=some x)(hx:Loc X.env.scope x)(r:RelV v u)
  (h:∀s',Inv X pins (σ.set i (some v)) H s'→(∃a,Heap.SameBut a s.heap s'.heap∧(a=X.env.locals∨X.env.cells.lookup x=some a))→Q () s') (hf:X.fn x=true∨X.env.scope.names.lookup x=some .local:=by first|exact .inl rfl|exact .inr rfl|assumption):wpAny M A (storeName X.env x u) Q E s:=by
 obtain⟨m,hn,hl⟩:=id I.loc;have Ja:(X.env.scope.kind== .class||(X.env.scope.kind== .module&&X.env.locals !=X.env.globals))=false:=by rw[I.ok.kind];rfl
 have FC:i<σ.length:=by rw[I.len];exact(Y' hi).1
 have Ct:=I.Ct;have tracked:∀{a:Addr}{h':Heap},(∃o,s.heap.get? a=some o∧H a=none)→Heap.SameBut a s.heap h'→kF X.prog X.w H h':=fun{a h'} ha hs b ob e=>by
  obtain⟨_,_,zM⟩:=ha;refine(I.bH b ob e).rE (fun c w' hc q=>(hs.2 c ?_).trans q) (fun _ q=>q) fun _ _ q=>q
  rintro rfl;rcases hc with rfl|hc
  ·rw[zM]at e;cases e
  ·rw[zM]at hc;cases hc
 rcases hx with hk|hk
 ·refine wpAny_storeName_local hk hn (fun h' A4 hs=>?_) Ja;obtain⟨oL,_,_,Cu,_⟩:=id hn;refine h _ ⟨I.ok,I.os,I.bare,⟨fun b o e n hb hx=>?_,fun b o e n hb hx=>?_,I.base.free,fun b o e hx=>?_,I.base.cw,I.base.kM,I.base.mM⟩,⟨_,A4,fun j y v' e1 e2 e3=>?_⟩,fun y c e=>?_,I.free,I.ip,fun p hp=>?_,tracked ⟨oL,Cu,I.free⟩ hs,by simpa using I.len⟩ ⟨_,hs, .inl rfl⟩
  ·exact(hs.2 b (Nat.ne_of_lt (Nat.lt_of_lt_of_le (Heap.lt_size e) I.ok.above))).trans (I.base.keep b o e n hb hx)
  ·obtain⟨sl,e1⟩:=I.base.slot b o e n hb hx;exact⟨sl,(hs.2 b (Nat.ne_of_lt (Nat.lt_of_lt_of_le (Heap.lt_size e) I.ok.above))).trans e1⟩
  ·obtain⟨o',e1⟩:=I.base.there b o e hx;exact⟨o',(hs.2 b (Nat.ne_of_lt (Nat.lt_of_lt_of_le (Heap.lt_size e) I.ok.above))).trans e1⟩
  ·by_cases hj:j=i
   ·subst hj;rw[hi]at e1;cases e1;rw[List.getElem?_set_self FC]at e2;cases e2;exact⟨u,r, .inl ⟨hk,Zx⟩⟩
   ·rw[List.getElem?_set_ne (Ne.symm hj)]at e2;obtain⟨u',r',q⟩:=hl j y v' e1 e2 e3;refine⟨u',r',?_⟩;rcases q with⟨k,e⟩|⟨k,c,e,z⟩
    ·refine .inl ⟨k,?_⟩;have:y≠x:=fun e=>hj (rG hN e1 (e▸hi))
     simp[this,e]
    ·exact .inr ⟨k,c,e,z.sameBut hs (Ct y c e)⟩
  ·obtain⟨w',z⟩:=I.cell y c e;exact⟨w',z.sameBut hs (Ct y c e)⟩
  ·obtain⟨e,n,ne,nf,d⟩:=I.pin p hp;exact⟨(hs.2 p.1 ne).trans e,n,ne,nf,d⟩
 ·have L9:X.fn x=true:=by
   rcases hf with z|z
   ·exact z
   ·rw[z]at hk;cases hk
  obtain⟨c,hc⟩:=I.ok.has x (.inl hk);obtain⟨w',z⟩:=I.cell x c hc;refine wpAny_storeName_cell I.ok.kind hk hc z (fun h' Jb hs=>?_);obtain⟨oc,S7,Qd⟩:=id z;refine h {s with heap:=h'} ⟨I.ok,I.os,I.bare,⟨fun b o e n hb hx=>?_,fun b o e n hb hx=>?_,I.base.free,fun b o e hx=>?_,I.base.cw,I.base.kM,I.base.mM⟩,⟨m,hn.sameBut hs (Ne.symm (Ct x c hc)),fun j y v' e1 e2 e3=>?_⟩,fun y c' e=>?_,I.free,I.ip,fun p hp=>?_,tracked ⟨oc,S7,I.ip x c hc⟩ hs,by simpa using I.len⟩ ⟨c,hs, .inr hc⟩
  ·exact(hs.2 b (Nat.ne_of_lt (Nat.lt_of_lt_of_le (Heap.lt_size e) (I.ok.L6 x c L9 hc)))).trans (I.base.keep b o e n hb hx)
  ·obtain⟨sl,e1⟩:=I.base.slot b o e n hb hx;exact⟨sl,(hs.2 b (Nat.ne_of_lt (Nat.lt_of_lt_of_le (Heap.lt_size e) (I.ok.L6 x c L9 hc)))).trans e1⟩
  ·obtain⟨o',e1⟩:=I.base.there b o e hx;exact⟨o',(hs.2 b (Nat.ne_of_lt (Nat.lt_of_lt_of_le (Heap.lt_size e) (I.ok.L6 x c L9 hc)))).trans e1⟩
  ·by_cases hj:j=i
   ·subst hj;rw[hi]at e1;cases e1;rw[List.getElem?_set_self FC]at e2;cases e2;exact⟨u,r, .inr ⟨.inl hk,c,hc,Jb⟩⟩
   ·rw[List.getElem?_set_ne (Ne.symm hj)]at e2;obtain⟨u',r',q⟩:=hl j y v' e1 e2 e3;refine⟨u',r',?_⟩;rcases q with q|⟨k,c',e,z'⟩
    ·exact .inl q
    ·refine .inr ⟨k,c',e,z'.sameBut hs ?_⟩;rintro rfl;exact hj (rG hN e1 (I.ok.inj _ _ _ e hc▸hi))
  ·by_cases S8:c'=c
   ·subst S8;exact⟨_,Jb⟩
   ·obtain⟨w2,z2⟩:=I.cell y c' e;exact⟨w2,z2.sameBut hs S8⟩
  ·obtain⟨e,n,ne,nf,d⟩:=I.pin p hp;refine⟨(hs.2 p.1 ?_).trans e,n,ne,nf,d⟩;intro q;rw[q,S7]at e;have q':oc=p.2:=Zp e;exact d w' (by rw[←q'];exact Qd)
theorem rH{M:Model}{A:Around}{E:Value→Shared→Prop}{i:Nat}{x:Str}{v:V}{u:Value}{Q:Unit→Shared→Prop}(I:Inv X pins σ H s)(hN:X.N.Nodup)(hi:X.N[i]?=some x)(hx:Loc X.env.scope x)(r:RelV v u)
  (h:∀s',Inv X pins (σ.set i (some v)) H s'→Q () s') (hf:X.fn x=true∨X.env.scope.names.lookup x=some .local:=by first|exact .inl rfl|exact .inr rfl|assumption):wpAny M A (storeName X.env x u) Q E s:=
 uz I hN hi hx r (fun s' I' _=>h s' I') hf
theorem Inv.Ht{s':Shared}{ch:List Addr}(I:Inv X pins σ H s)(ho:s'.os=s.os)(u:Un (kN X.stack) ch H H' s.heap s'.heap)(bH:kF X.prog X.w H' s'.heap)(hg:AllBare s'.gens)
  (Fb:∀b∈ch,(b∈X.ex∨X.cL.heap.objs.size≤b)∧b≠X.env.locals∧(∀x c,X.env.cells.lookup x=some c→c≠b)∧∀p∈X.pn++pins,p.1≠b):Inv X pins σ H' s':=by
 obtain⟨h',g',d',t',o'⟩:=s';have e:o'=s.os:=ho;subst e;exact I.call (g':=g') (t':=t') (d':=d') u bH hg Fb
end
abbrev XK:=Value→Option Addr→Hp→Prop
abbrev St:=List (Option V)
abbrev VK:=V→Hp→Prop
abbrev TE:=St→Hp→VK→Prop
abbrev TT:=St→Hp→(Bool→Hp→Prop)→Prop
abbrev TA:=St→Hp→(List V→Hp→Prop)→Prop
structure Ends where
 nx:St→Hp→Prop
 rt:VK
 bk:St→Hp→Prop:=fun _ _=>False
 ct:St→Hp→Prop:=fun _ _=>False
abbrev TS:=Ends→St→Hp→Prop
def EP(X:Cx)(pins:List (Addr×Obj))(σ:St)(Q:VK)(u:Value)(s':Shared):Prop:=∃v H',Inv X pins σ H' s'∧RelV v u∧Q v H'
def TP(X:Cx)(pins:List (Addr×Obj))(σ:St)(Q:Bool→Hp→Prop)(b:Bool)(s':Shared):Prop:=∃H',Inv X pins σ H' s'∧Q b H'
def AP(X:Cx)(pins:List (Addr×Obj))(σ:St)(Q:List V→Hp→Prop)(us:List Value)(s':Shared):Prop:=∃vs H',Inv X pins σ H' s'∧Vals vs us∧Q vs H'
def SP(X:Cx)(pins:List (Addr×Obj))(D:Ends)(f:Flow)(s':Shared):Prop:=
 match f with
 | .next=>∃a7 H',Inv X pins a7 H' s'∧D.nx a7 H'
 | .brk=>∃a7 H',Inv X pins a7 H' s'∧D.bk a7 H'
 | .cont=>∃a7 H',Inv X pins a7 H' s'∧D.ct a7 H'
 | .ret u=>∃v a7 H',Inv X pins a7 H' s'∧RelV v u∧D.rt v H'
def PE(X:Cx)(e:Expr)(t:TE):Prop:=
 ∀(pins:List (Addr×Obj))(s:Shared)(σ:St)(H:Hp)(Q:VK),Inv X pins σ H s→t σ H Q→wpAny (model X.prog X.w) X.A (eval e X.env) (EP X pins σ Q) X.xe s
def PT(X:Cx)(e:Expr)(t:TT):Prop:=
 ∀(pins:List (Addr×Obj))(s:Shared)(σ:St)(H:Hp)(Q:Bool→Hp→Prop),Inv X pins σ H s→t σ H Q→wpAny (model X.prog X.w) X.A (isTrue e X.env (eval e X.env)) (TP X pins σ Q) X.xe s
def PW(X:Cx)(e:Expr)(t:TT):Prop:=
 ∀(whole:Sem Value)(pins:List (Addr×Obj))(s:Shared)(σ:St)(H:Hp)(Q:Bool→Hp→Prop),Inv X pins σ H s→t σ H Q→wpAny (model X.prog X.w) X.A (isTrue e X.env whole) (TP X pins σ Q) X.xe s
theorem PW.pt{X:Cx}{e:Expr}{t:TT}(h:PW X e t):PT X e t:=h _
def PA(X:Cx)(es:List Expr)(t:TA):Prop:=
 ∀(pos:Pos)(pins:List (Addr×Obj))(s:Shared)(σ:St)(H:Hp)(Q:List V→Hp→Prop),Inv X pins σ H s→t σ H Q→wpAny (model X.prog X.w) X.A (spliced (backTo pos (starEach es X.env))) (AP X pins σ Q) X.xe s
def PS(X:Cx)(st:Stmt)(t:TS):Prop:=
 ∀(pins:List (Addr×Obj))(s:Shared)(σ:St)(H:Hp)(D:Ends),Inv X pins σ H s→t D σ H→wpAny (model X.prog X.w) X.A (exec st X.env) (SP X pins D) X.xe s
def yy(X:Cx)(st:List Stmt)(t:TS):Prop:=
 ∀(pins:List (Addr×Obj))(s:Shared)(σ:St)(H:Hp)(D:Ends),Inv X pins σ H s→t D σ H→wpAny (model X.prog X.w) X.A (execs st X.env) (SP X pins D) X.xe s
theorem cz{α:Type}{t:Sem α}{Q Q':α→Shared→Prop}{M:Model}{A:Around}{E:Value→Shared→Prop}{s:Shared}(h:wpAny M A t Q E s)(hQ:∀a s,Q a s→Q' a s):wpAny M A t Q' E s:=wpAny_mono h hQ fun _ _ x=>x
section
variable{X:Cx}
theorem bin{a b:Expr}{ta tb:TE}(ha:PE X a ta)(hb:PE X b tb){pins:List (Addr×Obj)}{s:Shared}{σ:St}{H:Hp}{R:V→V→Hp→Prop}(I:Inv X pins σ H s)(h:ta σ H fun x H1=>tb σ H1 fun y H2=>R x y H2)
  {α:Type} {Q:α→Shared→Prop} {f:Value→Value→Sem α}
  (hf:∀v u s2 x y H2,Inv X pins σ H2 s2→RelV x v→RelV y u→R x y H2→wpAny (model X.prog X.w) X.A (f v u) Q X.xe s2):
  wpAny (model X.prog X.w) X.A (eval a X.env) (fun v bW=>wpAny (model X.prog X.w) X.A (eval b X.env) (fun u pA=>wpAny (model X.prog X.w) X.A (f v u) Q X.xe pA) X.xe bW) X.xe s:=by
 refine cz (ha pins s σ H _ I h) fun v s1 ⟨x,H1,I1,r1,q1⟩=>?_
 refine cz (hb pins s1 σ H1 _ I1 q1) fun u s2 ⟨y,H2,I2,r2,q2⟩=>?_
 exact hf v u s2 x y H2 I2 r1 r2 q2
inductive Jc(i:Nat)(σ:St)(H:Hp)(Q:VK):Prop
 |mk (v:_) (_:σ[i]?=some (some v)) (_:Q v H):Jc i σ H Q
def tC(v:V):TE:=fun _ H Q=>Q v H
theorem Jd{i:Nat}{x:Str}{pos:Pos}(hN:X.N[i]?=some x)(hv:Qa X.env.scope x)(hd:(x==("__debug__":Str))=false:=by decide)(A5:(x==("__classdict__":Str))=false:=by decide):PE X (.Name x pos) (Jc i):=by
 intro pins s σ H Q I h;obtain⟨v,e,h⟩:=h;obtain⟨m,hn,hl⟩:=I.loc;obtain⟨u,r,l⟩:=hl i x v hN e hv;have fin:EP X pins σ Q u s:=⟨v,H,I,r,h⟩
 rcases l with⟨hk,hm⟩|⟨hk,c,hc,Hu⟩
 ·exact wpAny_Name (wpAny_loadName_local I.ok.kind hk hn hm fin) hd
 ·rcases hk with hk|hk
  ·exact wpAny_Name (wpAny_loadName_cell I.ok.kind hk hc Hu fin) hd
  ·exact wpAny_Name (wpAny_loadName_free I.ok.kind hk hc Hu fin A5) hd
theorem aq{i j pos}:PE X (.Constant (.int i) j pos) (tC (.int i)):=fun _ _ _ H _ I h=>wpAny_Constant_int ⟨.int i,H,I.tok _,⟨_,rfl⟩,h⟩
theorem eE{b j pos}:PE X (.Constant (.bool b) j pos) (tC (.bl b)):=fun _ _ _ H _ I h=>Constant_bool ⟨.bl b,H,I,rfl,h⟩
theorem jY{j pos}:PE X (.Constant .none j pos) (tC .cn):=fun _ _ _ H _ I h=>Constant_none ⟨.cn,H,I,rfl,h⟩
theorem bb{x j pos}:PE X (.Constant (.str x) j pos) (tC (.str x)):=fun _ _ _ H _ I h=>Calls.Constant_str ⟨.str x,H,I.tok _,⟨_,rfl⟩,h⟩
def Gl(X:Cx)(x:Str):Prop:=X.env.kindOf x=some .globalImplicit
theorem lK{E:Value→Shared→Prop}{pins:List (Addr×Obj)}{s:Shared}{σ:St}{H:Hp}{x:Str}{u:Value}{pos:Pos}{Q:Value→Shared→Prop}(I:Inv X pins σ H s)(hg:Gl X x)(hm:X.mg x=some u)(h:Q u s)
  (hd:(x==("__debug__":Str))=false:=by decide):wpAny (model X.prog X.w) X.A (eval (.Name x pos) X.env) Q E s:=
 Calls.Name_function_global I.ok.kind hg (Calls.loadGlobal_global (by rw[I.ok.glob];exact I.mod.glob.keeps I.bk) hm h) hd
theorem jZ{E:Value→Shared→Prop}{pins:List (Addr×Obj)}{s:Shared}{σ:St}{H:Hp}{x:Str}{u:Value}{pos:Pos}{Q:Value→Shared→Prop}(I:Inv X pins σ H s)(hg:Gl X x)(hm:X.mg x=none)(hv:bootBuiltins x=some u)(h:Q u s)
  (hn:x≠"__name__":=by decide) (hd:(x==("__debug__":Str))=false:=by decide):wpAny (model X.prog X.w) X.A (eval (.Name x pos) X.env) Q E s:=by
 obtain⟨mb,h1,h2⟩:=I.mod.blt;exact Calls.Name_function_global I.ok.kind hg (Calls.loadGlobal_builtin (by rw[I.ok.glob];exact I.mod.glob.keeps I.bk) hm (by rw[I.ok.blt];exact h1.keeps I.bk) ((h2 x hn).trans hv) h) hd
theorem c6{x:Str}{v:V}{u:Value}{pos:Pos}(hg:Gl X x)(hm:X.mg x=some u)(r:RelV v u)(hd:(x==("__debug__":Str))=false:=by decide):PE X (.Name x pos) (tC v):=
 fun _ _ _ H _ I h=>lK I hg hm ⟨v,H,I,r,h⟩ hd
theorem i5{x:Str}{v:V}{u:Value}{pos:Pos}(hg:Gl X x)(hm:X.mg x=none)(hv:bootBuiltins x=some u)(r:RelV v u)(hn:x≠"__name__":=by decide)(hd:(x==("__debug__":Str))=false:=by decide):PE X (.Name x pos) (tC v):=
 fun _ _ _ H _ I h=>jZ I hg hm hv ⟨v,H,I,r,h⟩ hn hd
variable{a b:Expr}{ta tb:TE}{pos:Pos}
def PC(X:Cx)(op:CmpOp)(a b:Expr)(t:TE):Prop:=
 ∀(pins:List (Addr×Obj))(s:Shared)(σ:St)(H:Hp)(Q:VK),Inv X pins σ H s→t σ H Q→
  wpAny (model X.prog X.w) X.A (eval a X.env) (fun v bW=>wpAny (model X.prog X.w) X.A (eval b X.env) (fun u pA=>wpAny (model X.prog X.w) X.A (compareOp op v u) (EP X pins σ Q) X.xe pA) X.xe bW) X.xe s
theorem cb(b:Expr){op:CmpOp}(h:op≠ .In)(h2:op≠ .NotIn):behindInMarks op b=false:=by
 have e1:(op==CmpOp.In)=false:=by cases op<;>first|rfl|exact absurd rfl h
 have e2:(op==CmpOp.NotIn)=false:=by cases op<;>first|rfl|exact absurd rfl h2
 cases b<;>simp[behindInMarks,e1,e2]
def Qe(ta:TE):TE:=fun σ H Q=>ta σ H fun x H1=>Q (.bl (decide (x= .cn))) H1
def L_(ta:TE):TE:=fun σ H Q=>ta σ H fun x H1=>Q (.bl (!decide (x= .cn))) H1
theorem RelV.w6{x:V}{v:Value}(r:RelV x v):(v==Value.none)=decide (x= .cn):=by
 cases x with
 |cn=>cases r;rfl
 |bl _=>cases r;rfl
 |int _=>obtain⟨t,rfl⟩:=r;rfl
 |str _=>obtain⟨t,rfl⟩:=r;rfl
 |AZ _=>obtain⟨t,rfl⟩:=r;rfl
 |Hr _=>obtain⟨t,rfl⟩:=r;rfl
 |ref _=>cases r;rfl
 |ty _=>cases r;rfl
theorem pB{j pos'}(ha:PE X a ta):PC X .Is a (.Constant .none j pos') (Qe ta):=by
 intro pins s σ H Q I h;refine cz (ha pins s σ H _ I h) fun v s1 ⟨x,H1,I1,r1,q1⟩=>?_
 exact Constant_none (is_none_gen ⟨.bl _,H1,I1,by rw[r1.w6];rfl,q1⟩)
theorem ve{j pos'}(ha:PE X a ta):PC X .IsNot a (.Constant .none j pos') (L_ ta):=by
 intro pins s σ H Q I h;refine cz (ha pins s σ H _ I h) fun v s1 ⟨x,H1,I1,r1,q1⟩=>?_
 exact Constant_none (isnot_none_gen ⟨.bl _,H1,I1,by rw[r1.w6];rfl,q1⟩)
inductive L'(x:V)(H:Hp)(Q:Bool→Hp→Prop):Prop
 |mk (c:Bool) (_:x= .bl c) (_:Q c H):L' x H Q
def tB(t:TE):TT:=fun σ H Q=>t σ H fun x H1=>L' x H1 Q
theorem Cv{op:CmpOp}{t:TE}(h:PC X op a b t)(h1:behindInMarks op b=false:=by first|exact cb _ (Zv) (Zv)|rfl):PE X (.Compare a [op] [b] pos) t:=fun pins s σ H Q I hw=>wpAny_Compare1 (h pins s σ H Q I hw) h1
theorem gB{op:CmpOp}{t:TE}(h:PC X op a b t)(h1:behindInMarks op b=false:=by first|exact cb _ (Zv) (Zv)|rfl):PT X (.Compare a [op] [b] pos) (tB t):=by
 intro pins s σ H Q I hw;refine wpAny_isTrue_Compare1 (cz (h pins s σ H _ I hw) fun v s1 h1=>cz h1 fun u s2 h2=>cz h2 fun c s3 ⟨x,H1,I1,r1,q1⟩=>?_) h1;obtain⟨d,rfl,q⟩:=q1;cases r1;exact wpAny_truthy_bool ⟨H1,I1,q⟩
theorem bQ{e:Expr}{t:TE}(h:PE X e t)(he:∀whole,isTrue e X.env whole=(do let v←whole;standAt e.pos;holding [v] (truthy v)):=by intro _;rfl):PT X e (tB t):=by
 intro pins s σ H Q I hw;refine isTrue_plain (cz (h pins s σ H _ I hw) fun v s1 ⟨x,H1,I1,r1,q1⟩=>?_) (he _);obtain⟨d,rfl,q⟩:=q1;cases r1;exact wpAny_truthy_bool ⟨H1,I1,q⟩
variable{tA OE:TT}{rest:List Expr}
def Qf(t u:TT):TT:=fun σ H Q=>t σ H fun c H1=>if c=true then u σ H1 Q else Q false H1
def Vt(t u:TT):TT:=fun σ H Q=>t σ H fun c H1=>if c=true then Q true H1 else u σ H1 Q
def Qg(t:TT):TT:=fun σ H Q=>t σ H fun c H1=>Q (!c) H1
theorem pw_and1(ha:PT X a tA):PW X (.BoolOp .And [a] pos) tA:=by
 intro wh pins s σ H Q I h;refine isTrue_and (cz (ha pins s σ H Q I h) fun c s1 e=>?_);cases c with
 |true=>exact isTrue_and_nil e
 |false=>exact e
theorem pw_or1(ha:PT X a tA):PW X (.BoolOp .Or [a] pos) tA:=by
 intro wh pins s σ H Q I h;refine isTrue_or (cz (ha pins s σ H Q I h) fun c s1 e=>?_);cases c with
 |false=>exact isTrue_or_nil e
 |true=>exact e
theorem pw_and(ha:PT X a tA)(hb:PW X (.BoolOp .And (b::rest) pos) OE):PW X (.BoolOp .And (a::b::rest) pos) (Qf tA OE):=by
 intro wh pins s σ H Q I h;refine isTrue_and (cz (ha pins s σ H _ I h) fun c s1 ⟨H1,I1,q1⟩=>?_);cases c with
 |true=>exact hb wh pins s1 σ H1 Q I1 q1
 |false=>exact⟨H1,I1,q1⟩
theorem pw_or(ha:PT X a tA)(hb:PW X (.BoolOp .Or (b::rest) pos) OE):PW X (.BoolOp .Or (a::b::rest) pos) (Vt tA OE):=by
 intro wh pins s σ H Q I h;refine isTrue_or (cz (ha pins s σ H _ I h) fun c s1 ⟨H1,I1,q1⟩=>?_);cases c with
 |true=>exact⟨H1,I1,q1⟩
 |false=>exact hb wh pins s1 σ H1 Q I1 q1
theorem cM(ha:PT X a tA):PT X (.UnaryOp .Not a pos) (Qg tA):=by
 intro pins s σ H Q I h;exact isTrue_not (ha pins s σ H (fun c H1=>Q (!c) H1) I h)
def Ma(ta tb:TE):TE:=fun σ H Q=>ta σ H fun x H1=>∃c,x= .bl c∧if c=true then tb σ H1 Q else Q (.bl false) H1
def Mb(ta:TE):TE:=fun σ H Q=>ta σ H fun x H1=>∃c,x= .bl c∧Q (.bl (!c)) H1
theorem pC{op}{t:TE}(h:PE X a t):PE X (.BoolOp op [a] pos) t:=fun pins s σ H Q I hw=>BoolOp_one (h pins s σ H Q I hw)
theorem pD(ha:PE X a ta)(hb:PE X (.BoolOp .And (b::rest) pos) tb):PE X (.BoolOp .And (a::b::rest) pos) (Ma ta tb):=by
 intro pins s σ H Q I h;refine BoolOp_and (cz (ha pins s σ H _ I h) fun v s1 ⟨x,H1,I1,r1,q1⟩=>?_);obtain⟨c,rfl,q1⟩:=q1;cases r1;refine wpAny_truthy_bool ?_;cases c with
 |true=>exact hb pins s1 σ H1 Q I1 q1
 |false=>exact⟨.bl false,H1,I1,rfl,q1⟩
theorem Je(ha:PE X a ta):PE X (.UnaryOp .Not a pos) (Mb ta):=by
 intro pins s σ H Q I h;refine UnaryOp_ (cz (ha pins s σ H _ I h) fun v s1 ⟨x,H1,I1,r1,q1⟩=>?_);obtain⟨c,rfl,q1⟩:=q1;cases r1;exact not_of (wpAny_truthy_bool ⟨.bl (!c),H1,I1,rfl,q1⟩)
def Vu(t:TT)(ta tb:TE):TE:=fun σ H Q=>t σ H fun c H1=>if c=true then ta σ H1 Q else tb σ H1 Q
theorem kO{c:Expr}(hc:PT X c tA)(ha:PE X a ta)(hb:PE X b tb):PE X (.IfExp c a b pos) (Vu tA ta tb):=by
 intro pins s σ H Q I h;refine wpAny_IfExp (cz (hc pins s σ H _ I h) fun d s1 ⟨H1,I1,q1⟩=>?_);cases d with
 |true=>exact ha pins s1 σ H1 Q I1 q1
 |false=>exact hb pins s1 σ H1 Q I1 q1
end
def jC(K:PySem.W.Frag)(H:Hp)(a:Addr)(xs:List V):Prop:=
 Rd H a (.lst xs)∨
  ∃(o:Obj)(its:Array Value)(n:Nat),K.lookup a=some o∧o.cls= .type "list"∧o.dict=none∧o.data= .seq its n∧its.size≤sizeLine∧Vals xs its.toList
def Cw(K:PySem.W.Frag)(H:Hp)(a:Addr)(xs:List V):Prop:=
 Rd H a (.tup xs)∨
  ∃(o:Obj)(its:Array Value)(n:Nat),K.lookup a=some o∧o.cls= .type "tuple"∧o.data= .seq its n∧its.size≤sizeLine∧Vals xs its.toList
def Qh:Value→Option V
 | .none=>some .cn
 | .bool b=>some (.bl b)
 | .int i _=>some (.int i)
 | .str x _=>some (.str x)
 | .bytes b _=>some (.AZ b)
 | .float b _=>some (.Hr b)
 | .ref a=>some (.ref a)
 | .type n=>some (.ty n)
 | _=>none
theorem RelV.abs{x:V}{u:Value}(r:RelV x u):Qh u=some x:=by
 cases x with
 |cn=>cases r;rfl
 |bl _=>cases r;rfl
 |int _=>obtain⟨t,rfl⟩:=r;rfl
 |str _=>obtain⟨t,rfl⟩:=r;rfl
 |AZ _=>obtain⟨t,rfl⟩:=r;rfl
 |Hr _=>obtain⟨t,rfl⟩:=r;rfl
 |ref _=>cases r;rfl
 |ty _=>cases r;rfl
theorem RelV.inj{x y:V}{u:Value}(r:RelV x u)(q:RelV y u):x=y:=Zp (r.abs.symm.trans q.abs)
theorem Vals.inj:∀{xs ys:List V}{us:List Value},Vals xs us→Vals ys us→xs=ys
 | _,_,_, .nil, .nil=>rfl
 | _,_,_, .cons r t, .cons r' t'=>by rw[r.inj r',Vals.inj t t']
section
variable{X:Cx}{pins:List (Addr×Obj)}{σ:St}{H:Hp}{s:Shared}{a:Addr}{xs ys:List V}
theorem jC.of{K:PySem.W.Frag}(h:H a=some (.lst xs)):jC K H a xs:= .inl (.inl h)
theorem Cw.of{K:PySem.W.Frag}(h:H a=some (.tup xs)):Cw K H a xs:= .inl (.inl h)
theorem Inv.list(I:Inv X pins σ H s)(h:jC X.K H a xs):∃its:List Value,Vals xs its∧PlainL s.heap a its.toArray∧xs.length≤sizeLine:=by
 rcases h with h|⟨o,its,n,hk,hc,hd,hs,hz,r⟩
 ·obtain⟨z,its,n,r,e⟩:=h.ok I.bH;exact⟨its,r,⟨_,n,e,rfl,rfl,rfl⟩,z⟩
 ·refine⟨its.toList,r,⟨o,n,I.nI a o hk,hc,hd,by simpa using hs⟩,?_⟩;have e:=r.length;simp only[Array.length_toList]at e;omega
theorem Inv.tuple(I:Inv X pins σ H s)(h:Cw X.K H a xs):∃its:List Value,Vals xs its∧IsTup s.heap a its.toArray∧xs.length≤sizeLine:=by
 rcases h with h|⟨o,its,n,hk,hc,hs,hz,r⟩
 ·obtain⟨z,its,r,p⟩:=h.ok I.bH;exact⟨its,r,p,z⟩
 ·refine⟨its.toList,r,⟨o,I.nI a o hk,hc,n,by simpa using hs⟩,?_⟩;have e:=r.length;simp only[Array.length_toList]at e;omega
theorem Inv.w8(I:Inv X pins σ H s)(h:jC X.K H a xs)(h':jC X.K H a ys):xs=ys:=by
 obtain⟨its,r,⟨o,n,e,_,_,d⟩,_⟩:=I.list h;obtain⟨its',r',⟨o',n',e',_,_,d'⟩,_⟩:=I.list h';rw[e]at e';cases e';rw[d]at d';injection d' with d1 _;have:its=its':=by simpa using congrArg Array.toList d1
 subst this;exact r.inj r'
end
abbrev Cx.Vv(X:Cx)(E:Value→Shared→Prop):Cx:={X with xe:=E}
section
variable{X:Cx}{pins:List (Addr×Obj)}{σ:St}{H:Hp}{s:Shared}{E:Value→Shared→Prop}
end
section
variable{X:Cx}{st:Stmt}{rest:List Stmt}{t u:TS}{e:Expr}{te:TE}{pos:Pos}
def Mc:TS:=fun D σ H=>D.nx σ H
def Qi(t u:TS):TS:=fun D σ H=>t {D with nx:=u D} σ H
theorem aR:yy X [] Mc:=fun _ _ σ H _ I h=>wpAny_execs_nil ⟨σ,H,I,h⟩
theorem aB(h1:PS X st t)(h2:yy X rest u):yy X (st::rest) (Qi t u):=by
 intro pins s σ H D I h;refine wpAny_execs_cons (cz (h1 pins s σ H {D with nx:=u D} I h) fun f s1 q=>?_);cases f with
 |next=>
  obtain⟨a7,H',I',q⟩:=q;exact h2 pins s1 a7 H' D I' q
 |ret v=>exact q
 |brk=>exact q
 |cont=>exact q
theorem ak(h1:PS X st t):yy X [st] t:=by
 intro pins s σ H D I h;refine wpAny_execs_cons (cz (h1 pins s σ H D I h) fun f s1 q=>?_);cases f with
 |next=>exact wpAny_execs_nil q
 |ret v=>exact q
 |brk=>exact q
 |cont=>exact q
theorem Inv.quiet{pins:List (Addr×Obj)}{σ:St}{H:Hp}{s:Shared}(I:Inv X pins σ H s):interactive X.env=false:=by simp[interactive,I.ok.kind]
def Md(te:TE):TS:=fun D σ H=>te σ H fun _ H1=>D.nx σ H1
theorem bg(he:PE X e te)(hs:swapsWith e none pos.line X.env=pure false:=by rfl):PS X (.Expr e pos) (Md te):=by
 intro pins s σ H D I h;exact wpAny_Expr_any (cz (he pins s σ H _ I h) fun v s1 ⟨x,H1,I1,r1,q1⟩=>⟨σ,H1,I1,q1⟩) I.quiet hs
def Qj(te:TE):TS:=fun D σ H=>te σ H D.rt
theorem aQ(he:PE X e te):PS X (.Return (some e) pos) (Qj te):=by
 intro pins s σ H D I h;exact wpAny_Return_some (cz (he pins s σ H _ I h) fun v s1 ⟨x,H1,I1,r1,q1⟩=>⟨x,σ,H1,I1,r1,q1⟩)
def Qk(c:TT)(t u:TS):TS:=fun D σ H=>c σ H fun b H1=>if b=true then t D σ H1 else u D σ H1
theorem br{c:Expr}{a b:List Stmt}{tc:TT}(hc:PT X c tc)(ha:yy X a t)(hb:yy X b u):PS X (.If c a b pos) (Qk tc t u):=by
 intro pins s σ H D I h;refine wpAny_If (cz (hc pins s σ H _ I h) fun d s1 ⟨H1,I1,q1⟩=>?_);cases d with
 |true=>exact ha pins s1 σ H1 D I1 q1
 |false=>exact hb pins s1 σ H1 D I1 q1
end
abbrev TG:=V→St→Hp→(St→Hp→Prop)→Prop
abbrev Hv:=List V→St→Hp→(St→Hp→Prop)→Prop
def PG(X:Cx)(target:Expr)(t:TG):Prop:=
 ∀(pins:List (Addr×Obj))(s:Shared)(σ:St)(H:Hp)(v:V)(u:Value)(Q:St→Hp→Prop),Inv X pins σ H s→RelV v u→t v σ H Q→
  wpAny (model X.prog X.w) X.A (assign target X.env u) (fun _ s'=>∃a7 H',Inv X pins a7 H' s'∧Q a7 H') X.xe s
def Me(X:Cx)(ts:List Expr)(t:Hv):Prop:=
 ∀(pins:List (Addr×Obj))(s:Shared)(σ:St)(H:Hp)(vs:List V)(us:List Value)(Q:St→Hp→Prop),Inv X pins σ H s→Vals vs us→t vs σ H Q→
  wpAny (model X.prog X.w) X.A (assignInOrder ((assignEach ts X.env).map (·.2)) us) (fun _ s'=>∃a7 H',Inv X pins a7 H' s'∧Q a7 H') X.xe s
abbrev Jf:=V→V→V→Hp→(Hp→Prop)→Prop
def Mf(X:Cx)(t:Jf):Prop:=
 ∀(pins:List (Addr×Obj))(s:Shared)(σ:St)(H:Hp)(o i v:V)(ov iv u:Value)(Q:Hp→Prop),Inv X pins σ H s→RelV o ov→RelV i iv→RelV v u→t o i v H Q→
  wpAny (model X.prog X.w) X.A (setItem ov iv u) (fun _ s'=>∃H',Inv X pins σ H' s'∧Q H') X.xe s
section
variable{X:Cx}{pos:Pos}
def zN(i:Nat):TG:=fun v σ H Q=>Q (σ.set i (some v)) H
theorem aT{i:Nat}{x:Str}(hN:X.N.Nodup)(hi:X.N[i]?=some x)(hx:Loc X.env.scope x)(hf:X.fn x=true∨X.env.scope.names.lookup x=some .local:=by first|exact .inl rfl|exact .inr rfl|assumption):PG X (.Name x pos) (zN i):=by
 intro pins s σ H v u Q I r h;exact wpAny_assign_Name (rH I hN hi hx r (fun s' I'=>⟨_,H,I',h⟩) hf)
def Ql:Hv:=fun vs σ H Q=>vs=[]∧Q σ H
def Mg(t:TG)(u:Hv):Hv:=fun vs σ H Q=>∃v r,vs=v::r∧t v σ H fun a7 H'=>u r a7 H' Q
theorem i6:Me X [] Ql:=by
 intro pins s σ H vs us Q I r h;obtain⟨e,h⟩:=h;subst e;cases r;exact assignInOrder_nil ⟨σ,H,I,h⟩
theorem cc{e:Expr}{es:List Expr}{t:TG}{u:Hv}(h1:PG X e t)(h2:Me X es u)
  (hs:(assignEach (e::es) X.env).map (·.2)=assign e X.env::(assignEach es X.env).map (·.2):=by rfl):Me X (e::es) (Mg t u):=by
 intro pins s σ H vs us Q I r h;obtain⟨v,vr,e1,h⟩:=h;subst e1;cases r with
 |cons r rr=>
  rw[hs];refine assignInOrder_cons (cz (h1 pins s σ H _ _ _ I r h) fun _ s1 ⟨Li,H1,I1,q1⟩=>?_);exact h2 pins s1 Li H1 _ _ Q I1 rr q1
inductive Jg(K:PySem.W.Frag)(n:Nat)(t:Hv)(v:V)(σ:St)(H:Hp)(Q:St→Hp→Prop):Prop
 |mk (a:_) (xs:_) (_:v= .ref a) (_:Cw K H a xs) (_:xs.length=n) (_:t xs σ H Q):Jg K n t v σ H Q
theorem Jh{es:List Expr}{k:Nat}{t:Hv}{n:Nat}(hc:X.calm=true)(h:Me X es t)
  (hn:(assignEach es X.env).length=n:=by rfl) (uA:(assignEach es X.env).findIdx? (·.1)=none:=by rfl):PG X (.Tuple es k pos) (Jg X.K n t):=by
 intro pins s σ H v u Q I r hw;obtain⟨a,xs,e1,hq,hl,hw⟩:=hw;subst e1;cases r;obtain⟨its,rv,ht,hz⟩:=I.tuple hq;refine assign_Tuple_tuple (I.ok.hd hc) ht (by simp[hn,←hl,rv.length]) uA fun h' hx=>?_
 have I1:Inv X pins σ H {s with heap:=h'}:=I.kept (t':=s.toks) fun b o e=>hx b o (Nat.ne_of_lt (Heap.lt_size e)) e
 exact h pins _ σ H xs _ Q I1 (by simpa using rv) hw
def Qm(to ti:TE)(t:Jf):TG:=fun v σ H Q=>to σ H fun o H1=>ti σ H1 fun i H2=>t o i v H2 fun H3=>Q σ H3
theorem Ji{o i:Expr}{to ti:TE}{t:Jf}(ho:PE X o to)(hi:PE X i ti)(hs:Mf X t)
  (ha:∀v,assign (.Subscript o i pos) X.env v=(do
   let ov←holding [v] (eval o X.env)
   let iv←holding [v,ov] (eval i X.env)
   standAt pos
   holding [v,ov,iv] (setItem ov iv v)
   release [v,ov,iv] []):=by intro _;rfl):PG X (.Subscript o i pos) (Qm to ti t):=by
 intro pins s σ H v u Q I r h;rw[ha];refine wpAny_bind (wpAny_holding (cz (ho pins s σ H _ I h) fun ov s1 ⟨x,H1,I1,r1,q1⟩=>?_));refine wpAny_bind (wpAny_holding (cz (hi pins s1 σ H1 _ I1 q1) fun iv s2 ⟨y,H2,I2,r2,q2⟩=>?_));refine wpAny_bind (wpAny_standAt (wpAny_bind (wpAny_holding (cz (hs pins s2 σ H2 x y v ov iv u _ I2 r1 r2 r q2) fun _ s3 ⟨H3,I3,q3⟩=>?_))));exact wpAny_release ⟨σ,H3,I3,q3⟩
def Jj(te:TE)(g:TG):TS:=fun D σ H=>te σ H fun x H1=>g x σ H1 D.nx
theorem Jk{tg e:Expr}{te:TE}{g:TG}(he:PE X e te)(hg:PG X tg g)(hs:swapsWithSole [tg] e pos.line X.env=pure false:=by rfl)(hw:swappedStores [tg] e X.env=pure none:=by rfl)
  (h1:(assignEach [tg] X.env).map (·.2)=[assign tg X.env]:=by rfl):PS X (.Assign [tg] e pos) (Jj te g):=by
 intro pins s σ H D I h;refine wpAny_Assign_stores (cz (he pins s σ H _ I h) fun v s1 ⟨x,H1,I1,r1,q1⟩=>?_) hs hw;rw[h1];exact cz (hg pins s1 σ H1 x v _ I1 r1 q1) fun _ s2 q=>q
theorem aH{i:Nat}{x:Str}{e:Expr}{te:TE}{pos':Pos}(hN:X.N.Nodup)(hi:X.N[i]?=some x)(hx:Loc X.env.scope x)(he:PE X e te)(hs:swapsWith e (some (.Name x pos')) pos.line X.env=pure false:=by rfl)(hf:X.fn x=true∨X.env.scope.names.lookup x=some .local:=by first|exact .inl rfl|exact .inr rfl|assumption):
  PS X (.Assign [.Name x pos'] e pos) (Jj te (zN i)):=by
 intro pins s σ H D I h;refine wpAny_Assign_Name (cz (he pins s σ H _ I h) fun v s1 ⟨y,H1,I1,r1,q1⟩=>?_) hs;exact rH I1 hN hi hx r1 (fun s2 I2=>⟨_,H1,I2,q1⟩) hf
end
section
variable{X:Cx}{pos:Pos}
def Jl(c:TT)(tb:TS):TS:=fun D σ H=>∃W:Nat→St→Hp→Prop,(∃m,W m σ H)∧∀m σ H,W m σ H→
 c σ H fun b H1=>if b=true then ∃N:St→Hp→Prop,(∀a7 H',N a7 H'→∃m',m'<m∧W m' a7 H')∧tb {D with nx:=N,ct:=N,bk:=D.nx} σ H1 else D.nx σ H1
theorem rJ{c:Expr}{body:List Stmt}{tc:TT}{tb:TS}(hp:PassesOwn (model X.prog X.w) X.A X.env X.xe)(hc:PT X c tc)(hb:yy X body tb):PS X (.While c body [] pos) (Jl tc tb):=by
 intro pins s σ H D I h;obtain⟨W,⟨m0,w0⟩,turn⟩:=h;refine wpAny_While (codeAny_whileLoop (fun n s'=>∃a7 H',Inv X pins a7 H' s'∧W n a7 H') ?_ m0 ⟨σ,H,I,w0⟩);rintro n s1 ⟨Li,H1,I1,w1⟩;refine wpAny_passesOwn hp (cz (hc pins s1 Li H1 _ I1 (turn n Li H1 w1)) fun b s2 ⟨H2,I2,q2⟩=>?_);cases b with
 |true=>
  obtain⟨N,hN,q2⟩:=q2;rw[if_pos rfl];refine wpAny_passesOwn hp (cz (hb pins s2 Li H2 _ I2 q2) fun f s3 q3=>?_);cases f with
  |next=>
   obtain⟨Cy,H3,I3,n3⟩:=q3;obtain⟨m',hm,w3⟩:=hN Cy H3 n3;exact⟨m',hm,Cy,H3,I3,w3⟩
  |cont=>
   obtain⟨Cy,H3,I3,n3⟩:=q3;obtain⟨m',hm,w3⟩:=hN Cy H3 n3;exact⟨m',hm,Cy,H3,I3,w3⟩
  |brk=>exact q3
  |ret v=>exact q3
 |false=>
  rw[Ze Bool.false_ne_true];exact wpAny_execs_nil ⟨Li,H2,I2,q2⟩
end
structure It where
 go:Nat→Hp→Prop
 FF:Nat→Hp→V→Hp→Prop
 stop:Nat→Hp→Prop
def ic(X:Cx)(pins:List (Addr×Obj))(H:Hp)(b:Addr):Prop:=
 H b=none∧b≠X.env.locals∧b∉X.fs∧(b∈X.ex∨X.cL.heap.objs.size≤b)∧(∀x c,X.env.cells.lookup x=some c→c≠b)∧∀p∈X.pn++pins,p.1≠b
theorem Inv.tS{X:Cx}{pins:List (Addr×Obj)}{σ:St}{H H':Hp}{s:Shared}{b:Addr}(I:Inv X pins σ H s)(hb:s.heap.objs.size≤b)(hn:H' b=none):ic X pins H' b:=by
 refine⟨hn,Nat.ne_of_gt (Nat.lt_of_lt_of_le I.lt hb),I.Qc hb, .inr (Nat.le_trans I.sz hb),fun x c e z=>?_,fun p hp z=>?_⟩
 ·obtain⟨v,q⟩:=I.cell x c e;exact absurd (Nat.lt_of_lt_of_le q.lt (by rw[z];exact hb)) (Nat.lt_irrefl _)
 ·exact absurd (Nat.lt_of_lt_of_le (Heap.lt_size (I.pin p hp).1) (by rw[z];exact hb)) (Nat.lt_irrefl _)
structure Turn(P:Program)(w:World)(K:PySem.W.Frag)(tg:Expr)(J:It)(fp:List Addr)(it:Addr)(tn:Nat→Heap→Prop):Prop where
 mem:it∈fp
 obj:∀i h,tn i h→∀b∈fp,∃o,h.get? b=some o∧∀v,o.data≠ .cell v
 keep:∀i h h',tn i h→(∀b∈fp,∀o,h.get? b=some o→h'.get? b=some o)→tn i h'
 item:∀(X:Cx),X.prog=P→X.w=w→X.K=K→X.calm=true→∀(i:Nat)(pins:List (Addr×Obj))(s:Shared)(σ:St)(H:Hp)(E:Value→Shared→Prop),Inv X pins σ H s→(∀b∈fp,ic X pins H b)→tn i s.heap→J.go i H→
  wpAny (model P w) X.A (pyNext (.ref it)) (fun r s1=>∃u,r=some u∧
   wpAny (model P w) X.A (letOwnedTupleGo tg (.ref it) u) (fun _ s2=>∃x H',Inv X pins σ H' s2∧RelV x u∧J.FF i H x H'∧tn (i+1) s2.heap∧∀b∈fp,H' b=none) E s1) E s
 done:∀(X:Cx),X.prog=P→X.w=w→X.K=K→X.calm=true→∀(i:Nat)(pins:List (Addr×Obj))(s:Shared)(σ:St)(H:Hp)(E:Value→Shared→Prop),Inv X pins σ H s→(∀b∈fp,ic X pins H b)→tn i s.heap→J.stop i H→
  wpAny (model P w) X.A (pyNext (.ref it)) (fun r s1=>r=none∧Inv X pins σ H s1) E s
 self:∀(A:Around)(i:Nat)(s:Shared)(Q:Value→Shared→Prop)(E:Value→Shared→Prop),tn i s.heap→Q (.ref it) s→wpAny (model P w) A (pyIter (.ref it)) Q E s
abbrev TI:=St→Hp→(It→Hp→Prop)→Prop
def Qn(X:Cx)(pins:List (Addr×Obj))(σ:St)(tg:Expr)(R:It→Hp→Prop)(Qo:Value)(s2:Shared):Prop:=
 ∃(it:Addr)(fp:List Addr)(tn:Nat→Heap→Prop)(J:It)(H':Hp),Qo= .ref it∧Inv X pins σ H' s2∧Turn X.prog X.w X.K tg J fp it tn∧tn 0 s2.heap∧(∀b∈fp,ic X pins H' b)∧R J H'
def PI(X:Cx)(tg iter:Expr)(wi:TI):Prop:=
 ∀(pins:List (Addr×Obj))(s:Shared)(σ:St)(H:Hp)(R:It→Hp→Prop),Inv X pins σ H s→wi σ H R→
  wpAny (model X.prog X.w) X.A (eval iter X.env) (fun v s1=>wpAny (model X.prog X.w) X.A (pyIter v) (Qn X pins σ tg R) X.xe s1) X.xe s
theorem w9{M:Model}{A:Around}{E:Value→Shared→Prop}{s:Shared}{tg:Expr}{it:Addr}{u:Value}{o:Obj}{n:String}{vs:Array Value}{Q:Unit→Shared→Prop}(ho:s.heap.get? it=some o)(hc:o.cls= .type n)(hd:o.data= .fields vs)
  (hn:["enumerate","zip","dict_itemiterator","dict_reverseitemiterator","odict_iterator","itertools.zip_longest","itertools.pairwise"].contains n=false) (hQ:Q () s):wpAny M A (letOwnedTupleGo tg (.ref it) u) Q E s:=by
 unfold letOwnedTupleGo;cases tg<;>first
  |exact wpAny_pure hQ
  |(cases u<;>first
    |exact wpAny_pure hQ
    |(refine wpAny_bind (wpAny_load ho ?_)
      rw[hc,hd];show wpAny M A (if (["enumerate","zip","dict_itemiterator","dict_reverseitemiterator","odict_iterator","itertools.zip_longest","itertools.pairwise"].contains n&&vs[0]?==some (rawInt _))=true then _ else _) Q E s;rw[Ze (by intro h;rw[hn,Bool.false_and]at h;cases h)];exact wpAny_pure hQ))
def Lj(K:PySem.W.Frag)(a:Addr):It:=
 ⟨fun i H=>∃xs x,jC K H a xs∧xs[i]?=some x,fun i H x H'=>H'=H∧∀xs,jC K H a xs→xs[i]?=some x,fun i H=>∃xs,jC K H a xs∧xs.length≤i⟩
def Hw(lo:Int)(n:Nat):It:=⟨fun i _=>i<n,fun i H x H'=>H'=H∧x= .int (lo+i),fun i _=>n≤i⟩
theorem A6{P:Program}{w:World}{K:PySem.W.Frag}{tg:Expr}(a it:Addr):Turn P w K tg (Lj K a) [it] it (fun i h=>h.IsListIter it a i) where
 mem:=Zx
 obj:=fun i h st b hb=>by
  have e:b=it:=by simpa using hb
  subst e;obtain⟨o,e,c,d⟩:=st;exact⟨o,e,fun v z=>by rw[d]at z;cases z⟩
 keep:=fun i h h' st k=>st.at fun o e=>k it (Zx) o e
 item:=by
  intro X hP hw hK hc i pins s σ H E I hf st hg;subst hP hw hK;obtain⟨xs,x,hq,hx⟩:=hg;obtain⟨its,rv,p,hz⟩:=I.list hq;obtain⟨u,hu,ru⟩:=rv.get hx;obtain⟨f0,f1,f2,f3,f4,f5⟩:=hf it (Zx);refine wpAny_pyNext_list_item st p.isList (x:=u) (by simpa using hu) fun h' aL sb=>?_
  have I1:Inv X pins σ H {s with heap:=h'}:=I.turned (t':=s.toks) (fun b o hb e=>(sb.2 b hb).trans e) f0 f1 f3 f4 f5;obtain⟨o,e,c,d⟩:=id aL;exact⟨u,rfl,w9 (s:={s with heap:=h'}) e c d (Zv) ⟨x,H,I1,ru,⟨rfl,fun ys hy=>by rw[I.w8 hy hq];exact hx⟩,aL,fun b hb=>(hf b hb).1⟩⟩
 done:=by
  intro X hP hw hK hc i pins s σ H E I hf st hg;subst hP hw hK;obtain⟨xs,hq,hx⟩:=hg;obtain⟨its,rv,p,hz⟩:=I.list hq;obtain⟨f0,f1,f2,f3,f4,f5⟩:=hf it (Zx);have hl:=rv.length;exact wpAny_pyNext_list_end (I.ok.hd hc) st p.isList (by simp;omega) fun h' eb=>⟨rfl,I.turned (t':=s.toks) (fun b o hb e=>eb b o hb e) f0 f1 f3 f4 f5⟩
 self:=fun _ _ _ _ _ st h=>wpAny_pyIter_listiter st h
theorem yz{P:Program}{w:World}{K:PySem.W.Frag}{tg:Expr}(it:Addr)(lo:Int)(n:Nat):Turn P w K tg (Hw lo n) [it] it (fun i h=>IsRangeIter h it (lo+(i:Nat)*1) ((n:Int)-(i:Nat)) 1) where
 mem:=Zx
 obj:=fun i h st b hb=>by
  have e:b=it:=by simpa using hb
  subst e;exact⟨_,st,fun v z=>by
   have z':Data.fields _=Data.cell v:=z;cases z'⟩
 keep:=fun i h h' st k=>k it (Zx) _ st
 item:=by
  intro X hP hw hK hc i pins s σ H E I hf st hg;subst hP hw hK;obtain⟨f0,f1,f2,f3,f4,f5⟩:=hf it (Zx);have W:=Walks.range (prog:=X.prog) (w:=X.w) (I.ok.hd hc) it lo 1 n;refine W.item i s _ _ hg st fun v h' tk hv aL kk=>?_
  obtain⟨t,rfl⟩:=hv;have I1:Inv X pins σ H {s with heap:=h',toks:=tk}:=I.turned (fun b o hb e=>kk b o (by simpa using hb) e) f0 f1 f3 f4 f5;refine⟨_,rfl,w9 (s:={s with heap:=h',toks:=tk}) (n:="range_iterator") aL rfl rfl (Zv) ⟨.int (lo+i),H,I1,⟨t,?_⟩,⟨rfl,rfl⟩,aL,fun b hb=>(hf b hb).1⟩⟩;rw[Int.mul_one]
 done:=by
  intro X hP hw hK hc i pins s σ H E I hf st hg;subst hP hw hK;obtain⟨f0,f1,f2,f3,f4,f5⟩:=hf it (Zx);exact wpAny_pyNext_range_end (I.ok.hd hc) st (by have:n≤i:=hg;omega) fun h' eb=>⟨rfl,I.turned (t':=s.toks) (fun b o hb e=>eb b o hb e) f0 f1 f3 f4 f5⟩
 self:=fun _ _ _ _ _ st h=>wpAny_pyIter_rangeiter st h
section
variable{X:Cx}{tg:Expr}
def Hx(K:PySem.W.Frag)(tl:TE):TI:=fun σ H R=>tl σ H fun x H1=>∃a,x= .ref a∧(∃xs,jC K H1 a xs)∧R (Lj K a) H1
theorem FG{l:Expr}{tl:TE}(hl:PE X l tl):PI X tg l (Hx X.K tl):=by
 intro pins s σ H R I h;refine cz (hl pins s σ H _ I h) fun v s1 ⟨x,H1,I1,r1,q1⟩=>?_
 obtain⟨a,e,⟨xs,hq⟩,q⟩:=q1;subst e;cases r1;obtain⟨its,rv,p,hz⟩:=I1.list hq;refine wpAny_pyIter_list p.isList ?_;refine⟨s1.heap.objs.size,[s1.heap.objs.size],_,_,H1,rfl,I1.kept (t':=s1.toks) fun b o e=>Zj e,A6 a _,⟨_,Heap.get?_push_size _ rfl,rfl,rfl⟩,fun b hb=>?_,q⟩;have e:b=s1.heap.objs.size:=by simpa using hb
 subst e;exact I1.tS (Nat.le_refl _) (I1.bH.fresh (Nat.le_refl _))
theorem w_{pins:List (Addr×Obj)}{σ:St}{H:Hp}{s:Shared}{R:It→Hp→Prop}{E:Value→Shared→Prop}{lo hi:Int}{t u v:Tok}{tk:Nat}(I:Inv X pins σ H s)(h1:-(2^62)≤lo)(h2:lo<2^62)(h3:-(2^62)≤hi)(h4:hi<2^62)
  (q:R (Hw lo (hi-lo).toNat) H):wpAny (model X.prog X.w) X.A (pyIter (.ref s.heap.objs.size)) (Qn X pins σ tg R) E {s with heap:=s.heap.push {cls:= .type "range",data:= .fields #[.int lo t, .int hi u, .int 1 v]},toks:=tk}:=by
 refine wpAny_pyIter_range (IsRange.new ..) (small_one h1 h2 h3 h4) ?_;have I1:Inv X pins σ H {s with heap:=s.heap.push {cls:= .type "range",data:= .fields #[.int lo t, .int hi u, .int 1 v]},toks:=tk}:=I.kept fun b o e=>Zj e
 refine⟨(s.heap.push {cls:= .type "range",data:= .fields #[.int lo t, .int hi u, .int 1 v]}).objs.size,[(s.heap.push {cls:= .type "range",data:= .fields #[.int lo t, .int hi u, .int 1 v]}).objs.size],_,_,H,rfl,
  I1.kept (t':=tk) fun b o e=>Zj e,yz _ lo (hi-lo).toNat,?_,fun b hb=>?_,q⟩
 ·have e1:lo+((0:Nat):Int)*1=lo:=Zx;have e2:(((hi-lo).toNat:Nat):Int)-((0:Nat):Int)=Builtin.Range.rangeSize lo hi 1:=by rw[rangeSize_one];split<;>omega
  show IsRangeIter _ _ (lo+((0:Nat):Int)*1) ((((hi-lo).toNat:Nat):Int)-((0:Nat):Int)) 1;rw[e1,e2];exact Heap.get?_push_size _ rfl
 ·have e:b=(s.heap.push {cls:= .type "range",data:= .fields #[.int lo t, .int hi u, .int 1 v]}).objs.size:=by simpa using hb
  subst e;exact I1.tS (Nat.le_refl _) (I1.bH.fresh (Nat.le_refl _))
def Mh(ta:TA):TI:=fun σ H R=>ta σ H fun vs H1=>∃j:Int,vs=[.int j]∧-(2^62)≤j∧j<2^62∧R (Hw 0 j.toNat) H1
def Mi(ta:TA):TI:=fun σ H R=>ta σ H fun vs H1=>∃i j:Int,vs=[.int i, .int j]∧(-(2^62)≤i∧i<2^62∧-(2^62)≤j∧j<2^62)∧R (Hw i (j-i).toNat) H1
theorem gC{a:Expr}{ta:TA}{p pos:Pos}(hg:Gl X "range")(hm:X.mg "range"=none)(ha:PA X [a] ta)(hs:starEach [a] X.env=[(false,eval a X.env)]:=by rfl):PI X tg (.Call (.Name "range" p) [a] [] pos) (Mh ta):=by
 intro pins s σ H R I h;refine Call_ (jZ I hg hm boot_range (PyProof.Rows.callWith_type1 (cz (ha pos pins s σ H _ I h) fun us s1 ⟨vs,H1,I1,r1,q1⟩=>?_) hs rfl));obtain⟨j,e,q1,q2,q⟩:=q1;subst e;cases r1 with
 |cons r rr=>
  cases rr;obtain⟨t,rfl⟩:=r;exact call_range_1 (w_ I1 (Zu) (Zu) q1 q2 (by simpa using q))
theorem A7{a b:Expr}{ta:TA}{p pos:Pos}(hg:Gl X "range")(hm:X.mg "range"=none)(ha:PA X [a,b] ta)(hs:starEach [a,b] X.env=[(false,eval a X.env),(false,eval b X.env)]:=by rfl)(FH:starEach [b] X.env=[(false,eval b X.env)]:=by rfl):
  PI X tg (.Call (.Name "range" p) [a,b] [] pos) (Mi ta):=by
 intro pins s σ H R I h;refine Call_ (jZ I hg hm boot_range (PyProof.Rows.callWith_type1 (cz (ha pos pins s σ H _ I h) fun us s1 ⟨vs,H1,I1,r1,q1⟩=>?_) (by rw[hs,FH]) (by rw[FH];rfl)));obtain⟨i,j,e,⟨q1,q2,q3,q4⟩,q⟩:=q1;subst e;cases r1 with
 |cons r rr=>
  cases rr with
  |cons r' rr=>
   cases rr;obtain⟨t,rfl⟩:=r;obtain⟨t',rfl⟩:=r';exact call_range_2 (w_ I1 q1 q2 q3 q4 q)
def Qp(wi:TI)(g:TG)(tb:TS):TS:=fun D σ H=>wi σ H fun J H1=>∃W:Nat→Nat→St→Hp→Prop,(∃m,W 0 m σ H1)∧∀i m σ H,W i m σ H→
 (J.stop i H∧D.nx σ H)∨(J.go i H∧∃N:St→Hp→Prop,(∀a7 H',N a7 H'→∃m',m'<m∧W (i+1) m' a7 H')∧∀x H',J.FF i H x H'→g x σ H' fun fm H2=>tb {D with nx:=N,ct:=N,bk:=D.nx} fm H2)
def rK(fp:List Addr)(h:Heap):List (Addr×Obj):=fp.filterMap fun b=>(h.get? b).map fun o=>(b,o)
theorem gD{fp:List Addr}{h:Heap}{b:Addr}{o:Obj}(hb:b∈fp)(e:h.get? b=some o):(b,o)∈rK fp h:=List.mem_filterMap.mpr ⟨b,hb,by rw[e];rfl⟩
theorem A8{fp:List Addr}{h:Heap}{p:Addr×Obj}(hp:p∈rK fp h):p.1∈fp∧h.get? p.1=some p.2:=by
 obtain⟨b,hb,e⟩:=List.mem_filterMap.mp hp;cases q:h.get? b with
 |none=>rw[q]at e;cases e
 |some o=>
  rw[q]at e;have e':(b,o)=p:=Zp e;subst e';exact⟨hb,q⟩
theorem Inv.pinned{pins:List (Addr×Obj)}{σ:St}{H:Hp}{s:Shared}{fp:List Addr}(I:Inv X pins σ H s)(hf:∀b∈fp,ic X pins H b)(ho:∀b∈fp,∃o,s.heap.get? b=some o∧∀v,o.data≠ .cell v):Inv X (pins++rK fp s.heap) σ H s:=
 I.zL fun p hp=>(List.mem_append.mp hp).elim (fun z=>I.pin p (List.mem_append_right _ z)) fun z=>by
  obtain⟨hb,e⟩:=A8 z;obtain⟨f0,f1,f2,_⟩:=hf p.1 hb;obtain⟨o,e',d⟩:=ho p.1 hb;rw[e]at e';cases e';exact⟨e,f0,f1,f2,d⟩
theorem Inv.kP{pins pl:List (Addr×Obj)}{σ:St}{H:Hp}{s:Shared}(I:Inv X (pins++pl) σ H s):Inv X pins σ H s:=I.zL fun p hp=>I.pin p (List.mem_append_right _ (List.mem_append_left _ hp))
theorem dI{iter:Expr}{body:List Stmt}{wi:TI}{g:TG}{tb:TS}{pos:Pos}(hp:PassesOwn (model X.prog X.w) X.A X.env X.xe)(hc:X.calm=true)(hi:PI X tg iter wi)(hg:PG X tg g)(hb:yy X body tb)
  (hs:∀x,foldedSetIterable iter X.env x=pure x:=by intro _;rfl):PS X (.For tg iter body [] pos) (Qp wi g tb):=by
 intro pins s σ H D I h;refine wpAny_For (cz (hi pins s σ H _ I h) fun v s1 h1=>cz h1 fun Qo s2 h2=>?_) hs;obtain⟨it,fp,tn,J,H2,e,I2,T,dC,f2,W,⟨m0,w0⟩,turn⟩:=h2;subst e;have yA:∀{H':Hp},(∀b∈fp,H' b=none)→∀b∈fp,ic X pins H' b:=fun hn b hb=>⟨hn b hb,(f2 b hb).2⟩
 refine codeAny_forLoop_any (fun n s'=>∃i a7 H',Inv X pins a7 H' s'∧tn i s'.heap∧(∀b∈fp,H' b=none)∧W i n a7 H') ?_ m0 ⟨0,σ,H2,I2,dC,fun b hb=>(f2 b hb).1,w0⟩;rintro n s3 ⟨i,Cy,H3,I3,Cz,Lk,w3⟩;rcases turn i n Cy H3 w3 with⟨stop,qn⟩|⟨go,N,hN,step⟩
 ·refine wpAny_passesOwn hp (cz (T.done X rfl rfl rfl hc i pins s3 Cy H3 X.xe I3 (yA Lk) Cz stop) fun r s4 ⟨hr,I4⟩=>?_);subst hr;exact wpAny_execs_nil ⟨Cy,H3,I4,qn⟩
 ·refine wpAny_passesOwn hp (cz (T.item X rfl rfl rfl hc i pins s3 Cy H3 X.xe I3 (yA Lk) Cz go) fun r s4 ⟨u,hr,h4⟩=>?_);subst hr;refine wpAny_passesOwn hp (cz h4 fun _ s5 ⟨x,H5,I5,r5,y5,Ll,OF⟩=>?_);have Vw:=I5.pinned (yA OF) (T.obj _ _ Ll);refine wpAny_passesOwn hp (cz (hg _ s5 Cy H5 x u _ Vw r5 (step x H5 y5)) fun _ s6 ⟨Vx,H6,I6,q6⟩=>?_);refine wpAny_passesOwn hp (cz (hb _ s6 Vx H6 _ I6 q6) fun f s7 q7=>?_);have again:∀{CA:St}{H7:Hp},Inv X (pins++rK fp s5.heap) CA H7 s7→N CA H7→∃m,m<n∧∃i a7 H',Inv X pins a7 H' s7∧tn i s7.heap∧(∀b∈fp,H' b=none)∧W i m a7 H':=fun{CA H7} I7 n7=>by
   obtain⟨m',hm,w7⟩:=hN CA H7 n7;refine⟨m',hm,i+1,CA,H7,I7.kP,T.keep _ _ _ Ll fun b hb o e=>(I7.pin (b,o) (List.mem_append_right _ (List.mem_append_right _ (gD hb e)))).1,fun b hb=>?_,w7⟩;obtain⟨o,e,d⟩:=T.obj _ _ Ll b hb;exact(I7.pin (b,o) (List.mem_append_right _ (List.mem_append_right _ (gD hb e)))).2.1
  cases f with
  |next=>obtain⟨CA,H7,I7,n7⟩:=q7;exact again I7 n7
  |cont=>obtain⟨CA,H7,I7,n7⟩:=q7;exact again I7 n7
  |brk=>obtain⟨CA,H7,I7,q7⟩:=q7;exact⟨CA,H7,I7.kP,q7⟩
  |ret v=>obtain⟨x7,CA,H7,I7,r7,q7⟩:=q7;exact⟨x7,CA,H7,I7.kP,r7,q7⟩
end
theorem eF{K:PySem.W.Frag}{a:Addr}{xs:List V}{g:TG}{tb:TS}{D:Ends}{σ:St}{H:Hp}(Pv:Nat→St→Hp→Prop)(h0:Pv 0 σ H)(hl:∀i σ H,i≤xs.length→Pv i σ H→jC K H a xs)
  (hs:∀i x σ H,xs[i]?=some x→Pv i σ H→g x σ H fun fm H2=>tb {D with nx:=Pv (i+1),ct:=Pv (i+1),bk:=D.nx} fm H2) (hd:∀σ H,Pv xs.length σ H→D.nx σ H):
  ∃W:Nat→Nat→St→Hp→Prop,(∃m,W 0 m σ H)∧∀i m σ H,W i m σ H→
   ((Lj K a).stop i H∧D.nx σ H)∨((Lj K a).go i H∧∃N:St→Hp→Prop,(∀a7 H',N a7 H'→∃m',m'<m∧W (i+1) m' a7 H')∧∀x H',(Lj K a).FF i H x H'→g x σ H' fun fm H2=>tb {D with nx:=N,ct:=N,bk:=D.nx} fm H2):=by
 refine⟨fun i m σ H=>m=xs.length-i∧i≤xs.length∧Pv i σ H,⟨xs.length,Zx,Nat.zero_le _,h0⟩,?_⟩;rintro i m σ H ⟨rfl,hi,p⟩;have q:=hl i σ H hi p;by_cases ie:i<xs.length
 ·refine .inr ⟨⟨xs,xs[i],q,by simp[ie]⟩,Pv (i+1),fun a7 H' p'=>⟨xs.length-(i+1),Zu,rfl,ie,p'⟩,fun x H' y=>?_⟩;obtain⟨e,y⟩:=y;subst e;exact hs i x σ _ (y xs q) p
 ·have e:i=xs.length:=Zu;subst e;exact .inl ⟨⟨xs,q,Nat.le_refl _⟩,hd σ H p⟩
theorem lL{lo:Int}{n:Nat}{g:TG}{tb:TS}{D:Ends}{σ:St}{H:Hp}(Pv:Nat→St→Hp→Prop)(h0:Pv 0 σ H)
  (hs:∀i σ H,i<n→Pv i σ H→g (.int (lo+i)) σ H fun fm H2=>tb {D with nx:=Pv (i+1),ct:=Pv (i+1),bk:=D.nx} fm H2) (hd:∀σ H,Pv n σ H→D.nx σ H):
  ∃W:Nat→Nat→St→Hp→Prop,(∃m,W 0 m σ H)∧∀i m σ H,W i m σ H→
   ((Hw lo n).stop i H∧D.nx σ H)∨((Hw lo n).go i H∧∃N:St→Hp→Prop,(∀a7 H',N a7 H'→∃m',m'<m∧W (i+1) m' a7 H')∧∀x H',(Hw lo n).FF i H x H'→g x σ H' fun fm H2=>tb {D with nx:=N,ct:=N,bk:=D.nx} fm H2):=by
 refine⟨fun i m σ H=>m=n-i∧i≤n∧Pv i σ H,⟨n,Zx,Nat.zero_le _,h0⟩,?_⟩;rintro i m σ H ⟨rfl,hi,p⟩;by_cases ie:i<n
 ·refine .inr ⟨ie,Pv (i+1),fun a7 H' p'=>⟨n-(i+1),Zu,rfl,ie,p'⟩,fun x H' y=>?_⟩;obtain⟨e,y⟩:=y;subst e y;exact hs i σ _ ie p
 ·have e:i=n:=Zu;subst e;exact .inl ⟨Nat.le_refl _,hd σ H p⟩
abbrev R2:=V→V→Hp→VK→Prop
def rg(X:Cx)(f:Value→Value→Sem Value)(r:R2):Prop:=
 ∀(pins:List (Addr×Obj))(s:Shared)(σ:St)(H:Hp)(x y:V)(v u:Value)(Q:VK),Inv X pins σ H s→RelV x v→RelV y u→r x y H Q→
  wpAny (model X.prog X.w) X.A (f v u) (EP X pins σ Q) X.xe s
def Qq(X:Cx)(f:Value→Sem Value)(r:V→Hp→VK→Prop):Prop:=
 ∀(pins:List (Addr×Obj))(s:Shared)(σ:St)(H:Hp)(x:V)(v:Value)(Q:VK),Inv X pins σ H s→RelV x v→r x H Q→
  wpAny (model X.prog X.w) X.A (f v) (EP X pins σ Q) X.xe s
def gY(X:Cx)(f:Value)(r:List V→Hp→VK→Prop):Prop:=
 ∀(pins:List (Addr×Obj))(s:Shared)(σ:St)(H:Hp)(xs:List V)(us:List Value)(Q:VK),Inv X pins σ H s→Vals xs us→r xs H Q→
  wpAny (model X.prog X.w) X.A (call f us) (EP X pins σ Q) X.xe s
def OG(r:R2)(ta tb:TE):TE:=fun σ H Q=>ta σ H fun x H1=>tb σ H1 fun y H2=>r x y H2 Q
def Vy(r:V→Hp→VK→Prop)(ta:TE):TE:=fun σ H Q=>ta σ H fun x H1=>r x H1 Q
inductive rI(C:Int→Int→Prop)(g:Int→Int→V)(x:V)(y:V)(H:Hp)(Q:VK):Prop
 |mk (i:_) (j:_) (_:x= .int i) (_:y= .int j) (_:C i j) (_:Q (g i j) H):rI C g x y H Q
inductive FI(g:Int→Int→V)(x:V)(y:V)(H:Hp)(Q:VK):Prop
 |mk (i:_) (j:_) (_:x= .int i) (_:y= .int j) (_:Q (g i j) H):FI g x y H Q
inductive rU(g:Int→V)(x:V)(H:Hp)(Q:VK):Prop
 |mk (i:_) (_:x= .int i) (_:Q (g i) H):rU g x H Q
section
variable{X:Cx}{a b c:Expr}{ta tb tc:TE}{pos:Pos}
theorem Jm(ha:PE X a ta)(hb:PE X b tb){pins:List (Addr×Obj)}{s:Shared}{σ:St}{H:Hp}{R:V→V→Hp→Prop}(I:Inv X pins σ H s)
  (h:ta σ H fun x H1=>tb σ H1 fun y H2=>R x y H2) {Q:Value→Shared→Prop} {f:Value→Value→Sem Value}
  (hf:∀v u s2 x y H2,Inv X pins σ H2 s2→RelV x v→RelV y u→R x y H2→wpAny (model X.prog X.w) X.A (f v u) Q X.xe s2):
  wpAny (model X.prog X.w) X.A (eval a X.env) (fun v bW=>wpAny (model X.prog X.w) X.A (eval b X.env) (fun u pA=>wpAny (model X.prog X.w) X.A (f v u) Q X.xe pA) X.xe bW) X.xe s:=by
 refine cz (ha pins s σ H _ I h) fun v s1 ⟨x,H1,I1,r1,q1⟩=>?_
 refine cz (hb pins s1 σ H1 _ I1 q1) fun u s2 ⟨y,H2,I2,r2,q2⟩=>?_
 exact hf v u s2 x y H2 I2 r1 r2 q2
theorem aI{op:Operator}{r:R2}(ho:rg X (binaryOp op) r)(ha:PE X a ta)(hb:PE X b tb):PE X (.BinOp a op b pos) (OG r ta tb):=by
 intro pins s σ H Q I h;exact wpAny_BinOp (Jm ha hb I h fun v u s2 x y H2 I2 rx ry q=>ho pins s2 σ H2 x y v u Q I2 rx ry q)
theorem qx{op:UnaryOp}{r:V→Hp→VK→Prop}(ho:Qq X (unaryOp op) r)(ha:PE X a ta):PE X (.UnaryOp op a pos) (Vy r ta):=by
 intro pins s σ H Q I h;exact UnaryOp_ (cz (ha pins s σ H _ I h) fun v s1 ⟨x,H1,I1,r1,q1⟩=>ho pins s1 σ H1 x v Q I1 r1 q1)
theorem Qr{f:Value→Value→Sem Value}{C:Int→Int→Prop}{g:Int→Int→Int}
  (rule:∀(i j:Int)(t u:Tok)(s:Shared)(Q:Value→Shared→Prop)(E:Value→Shared→Prop),C i j→Q (.int (g i j) s.toks) {s with toks:=s.toks+1}→wpAny (model X.prog X.w) X.A (f (.int i t) (.int j u)) Q E s):
  rg X f (rI C fun i j=> .int (g i j)):=by
 intro pins s σ H x y v u Q I rx ry h;obtain⟨i,j,rfl,rfl,hc,q⟩:=h;obtain⟨t,rfl⟩:=rx;obtain⟨t',rfl⟩:=ry;exact rule i j t t' s _ _ hc ⟨.int (g i j),H,I.tok _,⟨_,rfl⟩,q⟩
theorem Mj{f:Value→Value→Sem Value}{g:Int→Int→Int}
  (rule:∀(i j:Int)(t u:Tok)(s:Shared)(Q:Value→Shared→Prop)(E:Value→Shared→Prop),Q (.int (g i j) s.toks) {s with toks:=s.toks+1}→wpAny (model X.prog X.w) X.A (f (.int i t) (.int j u)) Q E s):
  rg X f (FI fun i j=> .int (g i j)):=by
 intro pins s σ H x y v u Q I rx ry h;obtain⟨i,j,rfl,rfl,q⟩:=h;obtain⟨t,rfl⟩:=rx;obtain⟨t',rfl⟩:=ry;exact rule i j t t' s _ _ ⟨.int (g i j),H,I.tok _,⟨_,rfl⟩,q⟩
theorem FJ{f:Value→Value→Sem Value}{g:Int→Int→Bool}
  (rule:∀(i j:Int)(t u:Tok)(s:Shared)(Q:Value→Shared→Prop)(E:Value→Shared→Prop),Q (.bool (g i j)) s→wpAny (model X.prog X.w) X.A (f (.int i t) (.int j u)) Q E s):
  rg X f (FI fun i j=> .bl (g i j)):=by
 intro pins s σ H x y v u Q I rx ry h;obtain⟨i,j,rfl,rfl,q⟩:=h;obtain⟨t,rfl⟩:=rx;obtain⟨t',rfl⟩:=ry;exact rule i j t t' s _ _ ⟨.bl (g i j),H,I,rfl,q⟩
def Qs(i j:Int):Prop:=0<j∧j<1073741824
def Jn(i j:Int):Prop:=(-(2^64)<i∧i<2^64)∨(-(2^64)<j∧j<2^64)
theorem Jn.ok{i j:Int}(h:Jn i j):IntMulOk i j:=by
 rcases h with⟨h1,h2⟩|⟨h1,h2⟩
 ·exact .of_left (intBits_le_64 h1 h2)
 ·exact .of_right (intBits_le_64 h1 h2)
theorem c_:rg X (binaryOp .Add) (FI fun i j=> .int (i+j)):=Mj fun _ _ _ _ _ _ _ q=>add_int q
theorem cG:rg X (binaryOp .Sub) (FI fun i j=> .int (i-j)):=Mj fun _ _ _ _ _ _ _ q=>sub_int q
theorem kQ:rg X (binaryOp .Mult) (rI Jn fun i j=> .int (i*j)):=Qr fun _ _ _ _ _ _ _ hc q=>mul_int q hc.ok
theorem j1:rg X (binaryOp .FloorDiv) (rI Qs fun i j=> .int (i/j)):=Qr fun i j _ _ _ _ _ hc q=>by
 have h1:(0:Int)<j:=hc.1;have h2:j<1073741824:=hc.2;exact floordiv_int (Zu) (by rw[Int.fdiv_eq_ediv_of_nonneg i (Zu)];exact q) (.inl (PyProof.noPylong_small (Zu)))
theorem de:rg X (binaryOp .Mod) (rI (fun _ j=>0<j) fun i j=> .int (i%j)):=Qr fun i j _ _ _ _ _ hc q=>by
 have h1:(0:Int)<j:=hc;exact mod_int' (Zu) (by rw[Int.fmod_eq_emod_of_nonneg i (Zu)];exact q)
theorem Vz{f:Value→Sem Value}{g:Int→Int}
  (rule:∀(i:Int)(t:Tok)(s:Shared)(Q:Value→Shared→Prop)(E:Value→Shared→Prop),Q (.int (g i) s.toks) {s with toks:=s.toks+1}→wpAny (model X.prog X.w) X.A (f (.int i t)) Q E s):
  Qq X f (rU fun i=> .int (g i)):=by
 intro pins s σ H x v Q I rx h;obtain⟨i,rfl,q⟩:=h;obtain⟨t,rfl⟩:=rx;exact rule i t s _ _ ⟨.int (g i),H,I.tok _,⟨_,rfl⟩,q⟩
theorem kR:Qq X (unaryOp .USub) (rU fun i=> .int (-i)):=Vz fun _ _ _ _ _ q=>neg_int q
end
def Ml:V→V→Bool
 | .cn, .cn=>true| .cn, .int _=>true| .int _, .cn=>true| .cn, .bl _=>true| .bl _, .cn=>true| .cn, .str _=>true| .str _, .cn=>true
 | .int _, .int _=>true| .bl _, .bl _=>true| .str _, .str _=>true| .AZ _, .AZ _=>true
 | .int _, .str _=>true| .str _, .int _=>true| .bl _, .str _=>true| .str _, .bl _=>true
 | _,_=>false
def VA:R2:=fun x y H Q=>Ml x y=true∧Q (.bl (decide (x=y))) H
def VB:R2:=fun x y H Q=>Ml x y=true∧Q (.bl (!decide (x=y))) H
theorem ZL{i j:Int}:decide (V.int i=V.int j)=(i==j):=by
 rw[Bool.eq_iff_iff];simp
theorem CB{i j:Bool}:decide (V.bl i=V.bl j)=(i==j):=by
 rw[Bool.eq_iff_iff];simp
theorem ZR{i j:Str}:decide (V.str i=V.str j)=(i==j):=by
 rw[Bool.eq_iff_iff];simp
theorem ZU{i j:Array UInt8}:decide (V.AZ i=V.AZ j)=(i.toList==j.toList):=by
 rw[Bool.eq_iff_iff];cases i;cases j;simp
section
variable{X:Cx}{a b c:Expr}{ta tb tc:TE}{pos:Pos}
theorem bD{pins:List (Addr×Obj)}{σ:St}{H:Hp}{s:Shared}{Q:VK}{k k':Bool}(I:Inv X pins σ H s)(q:Q (.bl k) H)(e:k=k'):EP X pins σ Q (.bool k') s:=by
 subst e;exact⟨.bl k,H,I,rfl,q⟩
theorem jD:rg X (compareOp .Eq) VA:=by
 intro pins s σ H x y v u Q I rx ry h;obtain⟨hs,q⟩:=h;cases x with
 |cn=>
  cases rx;cases y with
  |cn=>cases ry;exact PySem.EqNone.eq_none_none (bD I q Zr)
  |bl j=>cases ry;exact PySem.EqNone.eq_none_bool (bD I q Zr)
  |int j=>obtain⟨t',rfl⟩:=ry;exact PySem.EqNone.eq_none_int (bD I q Zr)
  |str j=>obtain⟨t',rfl⟩:=ry;exact PySem.EqNone.eq_none_str (bD I q Zr)
  | _=>exact absurd (show false=true from hs) Bool.false_ne_true
 |bl i=>
  cases rx;cases y with
  |cn=>cases ry;exact PySem.EqNone.eq_bool_none (bD I q Zr)
  |bl j=>cases ry;exact eq_bool (bD I q CB)
  |str j=>obtain⟨t',rfl⟩:=ry;exact PySem.EqMixed.eq_bool_str (bD I q Zr)
  | _=>exact absurd (show false=true from hs) Bool.false_ne_true
 |int i=>
  obtain⟨t,rfl⟩:=rx;cases y with
  |cn=>cases ry;exact PySem.EqNone.eq_int_none (bD I q Zr)
  |int j=>obtain⟨t',rfl⟩:=ry;exact eq_int (bD I q ZL)
  |str j=>obtain⟨t',rfl⟩:=ry;exact PySem.EqMixed.eq_int_str (bD I q Zr)
  | _=>exact absurd (show false=true from hs) Bool.false_ne_true
 |str i=>
  obtain⟨t,rfl⟩:=rx;cases y with
  |cn=>cases ry;exact PySem.EqNone.eq_str_none (bD I q Zr)
  |bl j=>cases ry;exact PySem.EqMixed.eq_str_bool (bD I q Zr)
  |int j=>obtain⟨t',rfl⟩:=ry;exact PySem.EqMixed.eq_str_int (bD I q Zr)
  |str j=>obtain⟨t',rfl⟩:=ry;exact eq_str (bD I q ZR)
  | _=>exact absurd (show false=true from hs) Bool.false_ne_true
 |AZ i=>
  obtain⟨t,rfl⟩:=rx;cases y with
  |AZ j=>obtain⟨t',rfl⟩:=ry;exact PySem.W.eq_bytes (bD I q ZU)
  | _=>exact absurd (show false=true from hs) Bool.false_ne_true
 | _=>cases y<;>exact absurd (show false=true from hs) Bool.false_ne_true
theorem rL:rg X (compareOp .NotEq) VB:=by
 intro pins s σ H x y v u Q I rx ry h;obtain⟨hs,q⟩:=h;cases x with
 |cn=>
  cases rx;cases y with
  |cn=>cases ry;exact PySem.EqNone.ne_none_none (bD I q Zr)
  |bl j=>cases ry;exact PySem.EqNone.ne_none_bool (bD I q Zr)
  |int j=>obtain⟨t',rfl⟩:=ry;exact PySem.EqNone.ne_none_int (bD I q Zr)
  |str j=>obtain⟨t',rfl⟩:=ry;exact PySem.EqNone.ne_none_str (bD I q Zr)
  | _=>exact absurd (show false=true from hs) Bool.false_ne_true
 |bl i=>
  cases rx;cases y with
  |cn=>cases ry;exact PySem.EqNone.ne_bool_none (bD I q Zr)
  |bl j=>cases ry;exact ne_bool (bD I q (congrArg not CB))
  |str j=>obtain⟨t',rfl⟩:=ry;exact PySem.EqMixed.ne_bool_str (bD I q Zr)
  | _=>exact absurd (show false=true from hs) Bool.false_ne_true
 |int i=>
  obtain⟨t,rfl⟩:=rx;cases y with
  |cn=>cases ry;exact PySem.EqNone.ne_int_none (bD I q Zr)
  |int j=>obtain⟨t',rfl⟩:=ry;exact ne_int (bD I q (congrArg not ZL))
  |str j=>obtain⟨t',rfl⟩:=ry;exact PySem.EqMixed.ne_int_str (bD I q Zr)
  | _=>exact absurd (show false=true from hs) Bool.false_ne_true
 |str i=>
  obtain⟨t,rfl⟩:=rx;cases y with
  |cn=>cases ry;exact PySem.EqNone.ne_str_none (bD I q Zr)
  |bl j=>cases ry;exact PySem.EqMixed.ne_str_bool (bD I q Zr)
  |int j=>obtain⟨t',rfl⟩:=ry;exact PySem.EqMixed.ne_str_int (bD I q Zr)
  |str j=>obtain⟨t',rfl⟩:=ry;exact ne_str (bD I q (congrArg not ZR))
  | _=>exact absurd (show false=true from hs) Bool.false_ne_true
 |AZ i=>
  obtain⟨t,rfl⟩:=rx;cases y with
  |AZ j=>obtain⟨t',rfl⟩:=ry;exact PySem.W.ne_bytes (bD I q (congrArg not ZU))
  | _=>exact absurd (show false=true from hs) Bool.false_ne_true
 | _=>cases y<;>exact absurd (show false=true from hs) Bool.false_ne_true
theorem xb:rg X (compareOp .Lt) (FI fun i j=> .bl (decide (i<j))):=FJ fun _ _ _ _ _ _ _ q=>lt_int q
theorem Hy:rg X (compareOp .LtE) (FI fun i j=> .bl (decide (i≤j))):=FJ fun _ _ _ _ _ _ _ q=>le_int q
theorem qy:rg X (compareOp .Gt) (FI fun i j=> .bl (decide (j<i))):=FJ fun _ _ _ _ _ _ _ q=>gt_int q
theorem Hz:rg X (compareOp .GtE) (FI fun i j=> .bl (decide (j≤i))):=FJ fun _ _ _ _ _ _ _ q=>ge_int q
theorem aY(b:Expr){op:CmpOp}(h:op≠ .In:=by decide)(h2:op≠ .NotIn:=by decide):behindInMarks op b=false:=by
 have e1:(op==CmpOp.In)=false:=by cases op<;>first|rfl|exact absurd rfl h
 have e2:(op==CmpOp.NotIn)=false:=by cases op<;>first|rfl|exact absurd rfl h2
 cases b<;>simp[behindInMarks,e1,e2]
theorem ir{op:CmpOp}{r:R2}(ho:rg X (compareOp op) r)(ha:PE X a ta)(hb:PE X b tb)(hm:behindInMarks op b=false):PE X (.Compare a [op] [b] pos) (OG r ta tb):=by
 intro pins s σ H Q I h;exact wpAny_Compare1 (Jm ha hb I h fun v u s2 x y H2 I2 rx ry q=>ho pins s2 σ H2 x y v u Q I2 rx ry q) hm
def Mm(t:TE):TT:=fun σ H Q=>t σ H fun x H'=>∃k,x= .bl k∧Q k H'
theorem aZ{op:CmpOp}{r:R2}(ho:rg X (compareOp op) r)(ha:PE X a ta)(hb:PE X b tb)(hm:behindInMarks op b=false):PT X (.Compare a [op] [b] pos) (Mm (OG r ta tb)):=by
 intro pins s σ H Q I h;refine wpAny_isTrue_Compare1 (cz (ha pins s σ H _ I h) fun v s1 ⟨x,H1,I1,r1,q1⟩=>cz (hb pins s1 σ H1 _ I1 q1) fun u s2 ⟨y,H2,I2,r2,q2⟩=>
  cz (ho pins s2 σ H2 x y v u _ I2 r1 r2 q2) fun c s3 ⟨z,H3,I3,r3,k,e,q3⟩=>?_) hm
 subst e;cases r3;exact wpAny_truthy_bool ⟨H3,I3,q3⟩
theorem mO:(sizeLine:Nat)<2^63:=by rw[sizeLine_eq];decide
theorem mP:rg X (binaryOp .Add) (fun x y H Q=>∃i j,x= .str i∧y= .str j∧i.length+j.length≤sizeLine∧Q (.str (i++j)) H):=by
 intro pins s σ H x y v u Q I rx ry h;obtain⟨i,j,rfl,rfl,hz,q⟩:=h;obtain⟨t,rfl⟩:=rx;obtain⟨t',rfl⟩:=ry;exact add_str (fun t' tk=>⟨.str (i++j),H,I.tok _,⟨_,rfl⟩,q⟩) hz
theorem vals1{x:V}{us:List Value}(r:Vals [x] us):∃u,us=[u]∧RelV x u:=by
 cases r with
 |cons r1 r2=>cases r2;exact⟨_,rfl,r1⟩
theorem vals2{x y:V}{us:List Value}(r:Vals [x,y] us):∃u w',us=[u,w']∧RelV x u∧RelV y w':=by
 cases r with
 |cons r1 r2=>
  cases r2 with
  |cons r3 r4=>cases r4;exact⟨_,_,rfl,r1,r3⟩
theorem A9(hc:X.calm=true):gY X (.builtin "max") (fun xs H Q=>∃i j,xs=[.int i, .int j]∧Q (.int (if j>i then j else i)) H):=by
 intro pins s σ H xs us Q I r h;obtain⟨i,j,rfl,q⟩:=h;obtain⟨u,w',rfl,⟨t,rfl⟩,⟨t',rfl⟩⟩:=vals2 r;refine max_two_ints (I.ok.hd hc) fun h' tk k=>⟨_,H,I.kept k,?_,q⟩
 by_cases hj:j>i
 ·rw[Zi hj,Zi hj];exact⟨_,rfl⟩
 ·rw[Ze hj,Ze hj];exact⟨_,rfl⟩
theorem A_(hc:X.calm=true):gY X (.builtin "min") (fun xs H Q=>∃i j,xs=[.int i, .int j]∧Q (.int (if j<i then j else i)) H):=by
 intro pins s σ H xs us Q I r h;obtain⟨i,j,rfl,q⟩:=h;obtain⟨u,w',rfl,⟨t,rfl⟩,⟨t',rfl⟩⟩:=vals2 r;refine min_two_ints (I.ok.hd hc) fun h' tk k=>⟨_,H,I.kept k,?_,q⟩
 by_cases hj:j<i
 ·rw[Zi hj,Zi hj];exact⟨_,rfl⟩
 ·rw[Ze hj,Ze hj];exact⟨_,rfl⟩
end
structure yB(h:Heap)(x dx C:Addr)(mA:Str→Option Value):Prop where
 obj:h.get? x=some (PySem.W.instObj C dx)
 ns:h.Ns1 dx mA
 ne:dx≠x
theorem Ba{h:Heap}{dx:Addr}{mA:Str→Option Value}(n:h.Ns1 dx mA):∃od,h.get? dx=some od∧∀name,PySem.W.lookIn name od=some (mA name):=by
 obtain⟨o,es,ep,ho,hd,hk,_,hm⟩:=n;refine⟨o,ho,fun name=>?_⟩;have e:=hm name;unfold nsFind findBy at e;rw[←Array.find?_toList]at e;unfold PySem.W.lookIn;rw[hd];dsimp only;split
 ·rename_i y q
  rw[q]at e;exact congrArg some e
 ·rename_i q
  rw[q]at e;have a:es.toList.any (·.refKey)=false:=by
   rw[List.any_eq_false];intro y hy;obtain⟨z,t,nJ⟩:=hk y (Array.mem_toList_iff.mp hy);simp[DictEntry.refKey,nJ]
  have a':¬es.toList.any (·.refKey)=true:=by rw[a];exact Bool.false_ne_true
  rw[Ze a'];exact congrArg some e
theorem yB.look{h:Heap}{x dx C:Addr}{mA:Str→Option Value}(I:yB h x dx C mA):∃od,PySem.W.InstAt h x (PySem.W.instObj C dx) C (some od)∧∀name,PySem.W.lookIn name od=some (mA name):=
 let ⟨od,ho,hl⟩:=Ba I.ns
 ⟨od,⟨I.obj,rfl,rfl,ho⟩,hl⟩
section
variable{prog:Program}{w:World}{A:Around}{E:Value→Shared→Prop}{s:Shared}{K:PySem.W.Frag}{x dx C f:Addr}{mA:Str→Option Value}{name:Str}{v:Value}
theorem get_map{expr:Bool}{Q:Value→Shared→Prop}(X:K.In s.heap)(I:yB s.heap x dx C mA)(hg:PySem.W.plainGet K C name=true)(hh:PySem.W.hasDictIn K C=true)
  (ha:PySem.W.findIn K (.ref C) name=some none) (hv:mA name=some v) (Fe:PySem.W.handedIn v=true) (h:Q v {s with toks:=s.toks+1}):
  wpAny (model prog w) A (getAttr (.ref x) name expr) Q E s:=by
 obtain⟨od,J,hl⟩:=I.look;exact PySem.W.get_value X J (PySem.W.plainGet_of hg).1 (PySem.W.findObj_own hh ha rfl (by rw[hl,hv])) Fe h
theorem CC{pl:Sem Bool}{Q:Value×List Value→Shared→Prop}(X:K.In s.heap)(I:yB s.heap x dx C mA)(hg:PySem.W.plainGet K C name=true)
  (hf:PySem.W.findIn K (.ref C) name=some (some (.ref f))) (ht:PySem.W.isFn K (.ref f)=true) (hv:mA name=none) (h:Q (.ref f,[.ref x]) s):
  wpAny (model prog w) A (getMethod (.ref x) name pl) Q E s:=by
 obtain⟨od,J,hl⟩:=I.look;exact PySem.W.method_fn X J (PySem.W.plainGet_of hg).1 (PySem.W.plainGet_of hg).2 hf (beq_iff_eq.mp ht) (by show(PySem.W.lookIn name od).map (·.isSome)=some false;rw[hl,hv];rfl) h
theorem FK{ns:List Str}{Q:Unit→Shared→Prop}(X:K.In s.heap)(I:yB s.heap x dx C mA)
  (hs:PySem.W.findIn K (.ref C) "__setattr__"=some (some (.builtin "object.__setattr__"))) (hp:PySem.W.plainOver K C=true) (ht:PySem.W.takerIn K C name=some none) (hh:PySem.W.hasDictIn K C=true)
  (hw:PySem.Within mA ns) (hsz:ns.length≤sizeLine)
  (h:∀h',yB h' x dx C (fun y=>if y=name then some v else mA y)→Heap.SameBut dx s.heap h'→Q () {s with heap:=h',toks:=s.toks+2}):
  wpAny (model prog w) A (setAttr (.ref x) name v) Q E s:=by
 obtain⟨od,J,hl⟩:=I.look;refine PySem.W.set_plain X J hs (PySem.W.osa_open (s:={s with toks:=s.toks+1}) (r:=none) X J hp ht fun b=>?_);obtain⟨cd,hc,yo⟩:=PySem.W.any_some hh;have hx:s.heap.get? x=some ⟨.ref C,some dx, .plain,#[]⟩:=I.obj;refine wpAny_bind (wpAny_pure (wpAny_bind (wpAny_bind (wpAny_loadPart hx (wpAny_bind (PySem.W.Looks.here (s:={s with toks:=s.toks+1}) (PySem.W.looks_clsIn X hc) ?_))))));rw[yo];refine wpAny_pure (a:=some dx) (wpAny_bind (wpAny_pure (wpAny_bind ?_)));refine wpAny_nsSet1 (s:={s with toks:=s.toks+1}) I.ns fun h' wO FH=>?_
 obtain⟨oD,Yo,Yp,VC,VD,FN⟩:=wO.count (PySem.Within.cons name v hw);refine wpAny_bind (wpAny_lookBehind VC (by rw[VD];exact pastItsLine_dict (Nat.le_trans FN (by rw[List.length_cons];omega))) ?_);exact wpAny_pure (h _ ⟨(FH.2 _ (Ne.symm I.ne)).trans I.obj,wO,I.ne⟩ FH)
theorem CD{R:Result→Shared→Prop}{vs:List Value}{kw:List (Str×Value)}(X:K.In s.heap)(hm:PySem.W.makesIn K C=true)
  (hi:PySem.W.findIn K (.ref C) "__init__"=some (some (.ref f))) (hf:PySem.W.typeIn K (.ref f)=some (.type "function"))
  (h:codeAny (model prog w) (A.under (.builtin "type.__call__" ⟨.ref C::vs,kw⟩)) (.call (.ref f) ⟨.ref (s.heap.objs.size+1)::vs,kw⟩) (PySem.W.InitBack (s.heap.objs.size+1) R)
   {s with heap:=(s.heap.push PySem.W.emptyDict).push (PySem.W.instObj C s.heap.objs.size)}):
  codeAny (model prog w) A (.call (.ref C) ⟨vs,kw⟩) R s:=by
 obtain⟨hh,g,d,t,os⟩:=s;exact PySem.W.make_core (PySem.W.makes_of X hm) (PySem.W.looks_findIn X hi) (fun self=>PySem.W.bind_fn X self hf) (.inl rfl) h
end
def bo(f:Str)(v:V):List (Str×V)→List (Str×V)
 |[]=>[(f,v)]
 |(g,x)::r=>if g=f then(g,v)::r else(g,x)::bo f v r
theorem qz(f g:Str)(v:V):∀fs:List (Str×V),(bo f v fs).lookup g=if g=f then some v else fs.lookup g
 |[]=>by
  show List.lookup g [(f,v)]=_;by_cases h:g=f
  ·have hb:(g==f)=true:=beq_iff_eq.mpr h;simp only[List.lookup,hb,Zi h]
  ·have hb:(g==f)=false:=beq_eq_false_iff_ne.mpr h;simp only[List.lookup,hb,Ze h]
 |(k,x)::r=>by
  have ih:=qz f g v r;rw[show bo f v ((k,x)::r)=(if k=f then(k,v)::r else(k,x)::bo f v r)from rfl];by_cases hk:k=f
  ·rw[Zi hk];by_cases h:g=k
   ·have hb:(g==k)=true:=beq_iff_eq.mpr h;simp only[List.lookup,hb,Zi (h.trans hk)]
   ·have hb:(g==k)=false:=beq_eq_false_iff_ne.mpr h;simp only[List.lookup,hb,Ze (fun e:g=f=>h (e.trans hk.symm))]
  ·rw[Ze hk];by_cases h:g=k
   ·have hb:(g==k)=true:=beq_iff_eq.mpr h;simp only[List.lookup,hb,Ze (fun e:g=f=>hk (h.symm.trans e))]
   ·have hb:(g==k)=false:=beq_eq_false_iff_ne.mpr h;simp only[List.lookup,hb];exact ih
theorem pE(f:Str)(v:V):∀fs:List (Str×V),f∈(bo f v fs).map (·.1)∧∀g,g∈fs.map (·.1)→g∈(bo f v fs).map (·.1)
 |[]=>⟨by simp[bo],fun g h=>by simp at h⟩
 |(k,x)::r=>by
  obtain⟨i1,i2⟩:=pE f v r;rw[show bo f v ((k,x)::r)=(if k=f then(k,v)::r else(k,x)::bo f v r)from rfl];by_cases hk:k=f
  ·rw[Zi hk];subst hk;exact⟨Zx,fun g h=>by simpa using h⟩
  ·rw[Ze hk];refine⟨?_,fun g h=>?_⟩
   ·rw[List.map_cons];exact List.mem_cons_of_mem _ i1
   ·rw[List.map_cons]at h⊢;rcases List.mem_cons.mp h with e|e
    ·exact List.mem_cons.mpr (.inl e)
    ·exact List.mem_cons_of_mem _ (i2 g e)
theorem aW(f:Str)(v:V):∀fs:List (Str×V),(bo f v fs).length≤fs.length+1
 |[]=>by simp[bo]
 |(k,x)::r=>by
  have ih:=aW f v r;rw[show bo f v ((k,x)::r)=(if k=f then(k,v)::r else(k,x)::bo f v r)from rfl];by_cases hk:k=f
  ·rw[Zi hk,List.length_cons,List.length_cons];omega
  ·rw[Ze hk,List.length_cons,List.length_cons];omega
theorem jX.some_of{v:V}{o:Option Value}(r:jX (some v) o):∃u,o=some u∧RelV v u:=by
 cases o with
 |none=>exact(show False from r).elim
 |some u=>exact⟨u,rfl,r⟩
theorem jX.none_of{o:Option Value}(r:jX none o):o=none:=by
 cases o with
 |none=>rfl
 |some u=>exact(show False from r).elim
theorem Bb{v:V}{u:Value}(r:RelV v u):PySem.W.handedIn u=true:=by
 cases v with
 |cn=>cases(show u=Value.none from r);rfl
 |bl b=>cases(show u=Value.bool b from r);rfl
 |int i=>obtain⟨t,e⟩:=(show ∃t,u=Value.int i t from r);cases e;rfl
 |str x=>obtain⟨t,e⟩:=(show ∃t,u=Value.str x t from r);cases e;rfl
 |AZ b=>obtain⟨t,e⟩:=(show ∃t,u=Value.bytes b t from r);cases e;rfl
 |Hr b=>obtain⟨t,e⟩:=(show ∃t,u=Value.float b t from r);cases e;rfl
 |ref a=>cases(show u=Value.ref a from r);rfl
 |ty n=>cases(show u=Value.type n from r);rfl
section
variable{P:Program}{w:World}{H H':Hp}{h h':Heap}{a C dx:Addr}{fs Vs:List (Str×V)}
theorem rh(bH:kF P w H h)(e:H a=some (.ins C dx fs)):∃mA,yB h a dx C mA∧(∀f,jX (fs.lookup f) (mA f))∧PySem.Within mA (fs.map (·.1))∧fs.length≤1000∧H dx=some (.own a):=by
 obtain⟨d,z,ne,ob,mA,n,r,q⟩:=(show cB P w H h a (.ins C dx fs)from bH a _ e)
 exact⟨mA,⟨ob,n,ne⟩,r,q,z,d⟩
end
structure vf(K:PySem.W.Frag)(C:Addr):Prop where
 pg:PySem.W.plainGet K C Str.empty=true
 hd:PySem.W.hasDictIn K C=true
 po:PySem.W.plainOver K C=true
 sa:PySem.W.findIn K (.ref C) "__setattr__"=some (some (.builtin "object.__setattr__"))
theorem vf.get{K:PySem.W.Frag}{C:Addr}(c:vf K C)(f:Str):PySem.W.plainGet K C f=true:=c.pg
def bR(K:PySem.W.Frag)(C:Addr)(f:Str):Prop:=PySem.W.findIn K (.ref C) f=some none
theorem bR.Mn{K:PySem.W.Frag}{C:Addr}{f:Str}(n:bR K C f):PySem.W.takerIn K C f=some none:=by
 unfold PySem.W.takerIn;rw[show PySem.W.findIn K (.ref C) f=some none from n];rfl
structure CH(K:PySem.W.Frag)(C:Addr)(f:Str)(v:V)(u:Value):Prop where
 at_:PySem.W.findIn K (.ref C) f=some (some u)
 rel:RelV v u
 get:PySem.W.specialIn K u "__get__"=some none
 cp:PySem.W.copiedNames.contains f=false
structure Meth(K:PySem.W.Frag)(C:Addr)(m:Str)(f:Addr):Prop where
 at_:PySem.W.findIn K (.ref C) m=some (some (.ref f))
 fn:PySem.W.isFn K (.ref f)=true
 kp:PySem.W.keepIn K (.ref f)=true
section
variable{X:Cx}{pins:List (Addr×Obj)}{σ:St}{H:Hp}{s:Shared}{a C dx:Addr}{fs:List (Str×V)}{f:Str}{v:V}{A:Around}{E:Value→Shared→Prop}
theorem yC{b:Bool}{Q:Value→Shared→Prop}(I:Inv X pins σ H s)(e:H a=some (.ins C dx fs))(c:vf X.K C)(n:bR X.K C f)(l:fs.lookup f=some v)
  (h:∀u s',Inv X pins σ H s'→RelV v u→Q u s'):wpAny (model X.prog X.w) A (getAttr (.ref a) f b) Q E s:=by
 obtain⟨mA,O,r,_,_,_⟩:=rh I.bH e;obtain⟨u,hu,ru⟩:=jX.some_of (v:=v) (o:=mA f) (by rw[←l];exact r f);exact get_map I.nI O (c.get f) c.hd n hu (Bb ru) (h u _ (I.tok _) ru)
theorem mQ{m:Str}{g:Addr}{pl:Sem Bool}{Q:Value×List Value→Shared→Prop}(I:Inv X pins σ H s)(e:H a=some (.ins C dx fs))(c:vf X.K C)(k:Meth X.K C m g)(l:fs.lookup m=none)
  (h:Q (.ref g,[.ref a]) s):wpAny (model X.prog X.w) A (getMethod (.ref a) m pl) Q E s:=by
 obtain⟨mA,O,r,_,_,_⟩:=rh I.bH e;have hn:mA m=none:=jX.none_of (by rw[←l];exact r m);exact CC I.nI O (c.get m) k.at_ k.fn hn h
theorem yD{y:V}{u:Value}{Q:Unit→Shared→Prop}(I:Inv X pins σ H s)(e:H a=some (.ins C dx fs))(c:vf X.K C)(n:bR X.K C f)(hl:fs.length<1000)(ry:RelV y u)
  (h:∀s',Inv X pins σ (upd H a (.ins C dx (bo f y fs))) s'→Q () s'):wpAny (model X.prog X.w) A (setAttr (.ref a) f u) Q E s:=by
 obtain⟨mA,O,r,wi,_,ho⟩:=rh I.bH e;have hz:(fs.map (·.1)).length≤sizeLine:=by rw[List.length_map,sizeLine_eq];omega
 refine FK I.nI O c.sa c.po n.Mn c.hd wi hz fun h' O' sb=>h _ ?_
 have hd:∃o,h'.get? dx=some o:=let ⟨o,_,_,e',_⟩:=O'.ns;⟨o,e'⟩
 refine I.write (x:=a) (e:=dx) (by rw[e];exact True.intro) (.inr ho) (fun b q hb z=>(sb.2 b hb).trans z) hd ?_;refine⟨by rw[ai O.ne];exact ho,?_,O.ne,O'.obj,_,O'.ns,fun g=>?_,fun g hg=>?_⟩
 ·have:=aW f y fs;omega
 ·show jX ((bo f y fs).lookup g) (if g=f then some u else mA g);rw[qz];by_cases q:g=f
  ·rw[Zi q,Zi q];exact ry
  ·rw[Ze q,Ze q];exact r g
 ·by_cases q:g=f
  ·rw[q];exact(pE f y fs).1
  ·refine(pE f y fs).2 g (wi g fun z=>hg ?_);show(if g=f then some u else mA g)=none;rw[Ze q];exact z
theorem Inv.made(I:Inv X pins σ H s):Inv X pins σ (upd (upd H s.heap.objs.size (.own (s.heap.objs.size+1))) (s.heap.objs.size+1) (.ins C s.heap.objs.size []))
  {s with heap:=(s.heap.push PySem.W.emptyDict).push (PySem.W.instObj C s.heap.objs.size)}:=by
 have e1:(s.heap.push PySem.W.emptyDict).get? s.heap.objs.size=some PySem.W.emptyDict:=Heap.get?_push_size s.heap rfl;have e2:((s.heap.push PySem.W.emptyDict).push (PySem.W.instObj C s.heap.objs.size)).get? (s.heap.objs.size+1)=some (PySem.W.instObj C s.heap.objs.size):=by
  have:=Heap.get?_push_size (s.heap.push PySem.W.emptyDict) (o:=PySem.W.instObj C s.heap.objs.size) rfl;rwa[Heap.size_push]at this
 have e3:(s.heap.push PySem.W.emptyDict).Ns s.heap.objs.size (fun _=>none):=⟨PySem.W.emptyDict,#[],_,e1,rfl,(fun e he=>absurd he Zr),fun _=>rfl⟩
 have I1:=I.laid (a:=s.heap.objs.size) (o:= .own (s.heap.objs.size+1)) (h':=s.heap.push PySem.W.emptyDict) (t':=s.toks) (fun b u q=>Zj q) (Nat.le_refl _) ⟨_,e1⟩;refine I1.laid (a:=s.heap.objs.size+1) (o:= .ins C s.heap.objs.size []) (t':=s.toks) (fun b u q=>Zj q) (Nat.le_of_eq (Heap.size_push _ _)) ?_;have ne:s.heap.objs.size≠s.heap.objs.size+1:=Nat.ne_of_lt (Nat.lt_succ_self _);refine⟨by rw[ai ne,ae],Nat.zero_le _,ne,e2,fun _=>none,(Heap.Ns1.of_empty e3).at fun o q=>Zj q,fun _=>True.intro,fun y hy=>absurd rfl hy⟩
theorem FO{prog:Program}{w:World}{env:Env}{e:Expr}{f:Str}{pos:Pos}{s:Shared}{Q:Value→Shared→Prop}(hb:attributeBase e f env (eval e env)=eval e env)
  (h:wpAny (model prog w) A (eval e env) (fun o bW=>wpAny (model prog w) A (getAttr o f true) Q E bW) E s):wpAny (model prog w) A (eval (.Attribute e f pos) env) Q E s:=
 Attribute_any_ h (by rw[arm_eval_Attribute,hb])
end
inductive HA(K:PySem.W.Frag)(f:Str)(x:V)(H1:Hp)(Q:VK):Prop
 |mk (a:Addr) (C:Addr) (dx:Addr) (fs:List (Str×V)) (v:V) (_:x= .ref a) (_:H1 a=some (.ins C dx fs)) (_:vf K C) (_:bR K C f) (_:fs.lookup f=some v) (_:Q v H1):HA K f x H1 Q
def Mo(K:PySem.W.Frag)(ta:TE)(f:Str):TE:=fun σ H Q=>ta σ H fun x H1=>HA K f x H1 Q
def Mp(K:PySem.W.Frag)(ta tv:TE)(f:Str):TS:=fun D σ H=>tv σ H fun y H1=>ta σ H1 fun x H2=>∃a C dx fs,x= .ref a∧H2 a=some (.ins C dx fs)∧vf K C∧bR K C f∧fs.length<1000∧
 D.nx σ (upd H2 a (.ins C dx (bo f y fs)))
section
variable{X:Cx}{o e value:Expr}{f:Str}{pos pos' Qt:Pos}{ta tv:TE}
theorem Jo(he:PE X e ta)(hb:attributeBase e f X.env (eval e X.env)=eval e X.env):PE X (.Attribute e f pos) (Mo X.K ta f):=by
 intro pins s σ H Q I h;refine FO hb (cz (he pins s σ H _ I h) fun u s1 ⟨x,H1,I1,rx,a,C,dx,fs,v,ex,ea,c,n,l,q⟩=>?_);subst ex;obtain rfl:u=Value.ref a:=rx;exact yC I1 ea c n l fun u' s2 I2 ru=>⟨v,H1,I2,ru,q⟩
theorem Jp(ha:PE X o ta)(hv:PE X value tv)(hs:swapsWith value (some (.Attribute o f pos')) pos.line X.env=pure false):PS X (.Assign [.Attribute o f pos'] value pos) (Mp X.K ta tv f):=by
 intro pins s σ H D I h;refine plainObj_wpAny_Assign_Attribute (cz (hv pins s σ H _ I h) fun u s1 ⟨y,H1,I1,ry,q⟩=>cz (ha pins s1 σ H1 _ I1 q) fun ov s2 ⟨x,H2,I2,rx,a,C,dx,fs,ex,ea,c,n,l,q2⟩=>?_) hs;subst ex;obtain rfl:ov=Value.ref a:=rx;exact yD I2 ea c n l ry fun s3 I3=>⟨σ,_,I3,q2⟩
theorem HB{pl:Sem Bool}{m:Str}{apos:Pos}{args:List Expr}{pins:List (Addr×Obj)}{s:Shared}{σ:St}{H:Hp}{Q:Value→Shared→Prop}{te:TE}(he:PE X e te)(I:Inv X pins σ H s)
  (h:te σ H fun x H1=>∃a C dx fs g,x= .ref a∧H1 a=some (.ins C dx fs)∧vf X.K C∧Meth X.K C m g∧fs.lookup m=none∧
   ∀s1,Inv X pins σ H1 s1→wpAny (model X.prog X.w) X.A (callWith pos (.ref g) [.ref a] (backTo pos (starEach args X.env)) (backToKw pos (keywordEach [] X.env))) Q X.xe s1)
  (ht:eval (.Call (.Attribute e m apos) args [] pos) X.env=(do
   let ov←eval e X.env
   standAt apos.atName
   let (f,first)←holding [ov] (getMethod ov m pl)
   callWith pos f first (backTo pos (starEach args X.env)) (backToKw pos (keywordEach [] X.env)))):
  wpAny (model X.prog X.w) X.A (eval (.Call (.Attribute e m apos) args [] pos) X.env) Q X.xe s:=by
 refine PySem.W.methodCall_KW (pl:=pl) (cz (he pins s σ H _ I h) fun u s1 ⟨x,H1,I1,rx,a,C,dx,fs,g,ex,ea,c,k,l,q⟩=>?_) ht;subst ex;obtain rfl:u=Value.ref a:=rx;exact mQ I1 ea c k l (q s1 I1)
end
section
variable{X:Cx}{pins:List (Addr×Obj)}{σ:St}{H:Hp}{s:Shared}{A:Around}{E:Value→Shared→Prop}{Q:Value→Shared→Prop}{c:Value}{b:Bool}
inductive pF(K:PySem.W.Frag)(H:Hp):V→Value→Prop where
 |cn:pF K H .cn (.type "NoneType")
 |bl (x:Bool):pF K H (.bl x) (.type "bool")
 |int (i:Int):pF K H (.int i) (.type "int")
 |str (x:Str):pF K H (.str x) (.type "str")
 |Hr (x:UInt64):pF K H (.Hr x) (.type "float")
 |lst {a:Addr} {xs:List V} (e:H a=some (.lst xs)):pF K H (.ref a) (.type "list")
 |q_ {a:Addr} {o:Obj} {xs:List V} (e:H a=some (.q_ o (.lst xs))):pF K H (.ref a) (.type "list")
 |tup {a:Addr} {xs:List V} (e:H a=some (.tup xs)):pF K H (.ref a) (.type "tuple")
 |dK {a:Addr} {kvs:List (Key×V)} (e:H a=some (.dK kvs)):pF K H (.ref a) (.type "dict")
 |dT {a:Addr} {kvs:List (List Key×V)} (e:H a=some (.dT kvs)):pF K H (.ref a) (.type "dict")
 |ins {a C dx:Addr} {fs:List (Str×V)} (e:H a=some (.ins C dx fs)) (cl:vf K C) (ha:PySem.W.findIn K (.ref C) "__class__"=some (some (.builtin "object.__class__")))
   (hn:PySem.W.specialIn K (.builtin "object.__class__") "__get__"=some (some (.builtin "getset_descriptor.__get__"))) (S9:PySem.W.takesIn K (.builtin "object.__class__")=some true)
   (hm:PySem.W.mroIn K C (.type "object")=some true):pF K H (.ref a) (.ref C)
theorem Bc{x:V}{u t:Value}(I:Inv X pins σ H s)(rx:RelV x u)(ty:pF X.K H x t)(e:PySem.W.kitOne X.K t c=some b)(h:∀tk,Q (.bool b) {s with toks:=tk}):
  wpAny (model X.prog X.w) A (call (.builtin "isinstance") [u,c]) Q E s:=by
 cases ty with
 |cn=>cases(show u=Value.none from rx);exact PySem.W.kia_one PySem.W.kitx_none I.nI True.intro e (fun z=>nomatch z) h
 |bl y=>cases(show u=Value.bool y from rx);exact PySem.W.kia_one PySem.W.kitx_bool I.nI True.intro e (fun z=>nomatch z) h
 |int i=>obtain⟨t,q⟩:=(show ∃t,u=Value.int i t from rx);cases q;exact PySem.W.kia_one PySem.W.kitx_int I.nI True.intro e (fun z=>nomatch z) h
 |str y=>obtain⟨t,q⟩:=(show ∃t,u=Value.str y t from rx);cases q;exact PySem.W.kia_one PySem.W.kitx_str I.nI True.intro e (fun z=>nomatch z) h
 |Hr y=>obtain⟨t,q⟩:=(show ∃t,u=Value.float y t from rx);cases q;exact PySem.W.kia_one PySem.W.kitx_float I.nI True.intro e (fun z=>nomatch z) h
 |@lst a xs ea=>
  cases(show u=Value.ref a from rx);obtain⟨_,_,n,_,h1⟩:=(show cB X.prog X.w H s.heap a (.lst xs)from I.bH a _ ea)
  exact PySem.W.kia_one PySem.W.kitx_list I.nI ⟨_,h1,rfl⟩ e (fun z=>nomatch z) h
 |@q_ a ob xs ea=>
  cases(show u=Value.ref a from rx);obtain⟨_,_,_,n,_,h1⟩:=(show cB X.prog X.w H s.heap a (.q_ ob (.lst xs))from I.bH a _ ea)
  exact PySem.W.kia_one PySem.W.kitx_list I.nI ⟨_,h1,rfl⟩ e (fun z=>nomatch z) h
 |@tup a xs ea=>
  cases(show u=Value.ref a from rx);obtain⟨_,_,_,p⟩:=(show cB X.prog X.w H s.heap a (.tup xs)from I.bH a _ ea)
  obtain⟨o,h1,h2,_⟩:=p;exact PySem.W.kia_one PySem.W.kitx_tuple I.nI ⟨o,h1,h2⟩ e (fun z=>nomatch z) h
 |@dK a kvs ea=>
  cases(show u=Value.ref a from rx);obtain⟨_,_,vs,_,p⟩:=(show cB X.prog X.w H s.heap a (.dK kvs)from I.bH a _ ea)
  obtain⟨o,es,ep,h1,h2,_⟩:=p;exact PySem.W.kia_one PySem.W.kitx_dict I.nI ⟨o,h1,h2.1⟩ e (fun z=>nomatch z) h
 |@dT a kvs ea=>
  cases(show u=Value.ref a from rx);obtain⟨_,_,xs,_,o,es,ep,h1,h2,_⟩:=(show cB X.prog X.w H s.heap a (.dT kvs)from I.bH a _ ea)
  exact PySem.W.kia_one PySem.W.kitx_dict I.nI ⟨o,h1,h2.1⟩ e (fun z=>nomatch z) h
 |@ins a C dx fs ea cl ha hn S9 hm=>
  cases(show u=Value.ref a from rx);obtain⟨mA,O,_⟩:=rh I.bH ea;obtain⟨od,J,_⟩:=O.look;exact PySem.W.kia_one (PySem.W.kitx_own (cl.get _) cl.hd ha hn S9 hm) I.nI J e (fun z=>nomatch z) h
end
structure cY(cm:Bool)(k:Nat)(A:Around):Prop where
 hd:cm=true→A.handled=none
 dp:A.depth+3*k+5<recursionLimit
 un:A.units+16*k+200<cLine
theorem cY.mono{cm:Bool}{j k:Nat}{A:Around}(r:cY cm k A)(h:j≤k):cY cm j A:=⟨r.hd,by have:=r.dp;omega,by have:=r.un;omega⟩
theorem cY.deeper{cm:Bool}{k:Nat}{A:Around}(r:cY cm (k+1) A)(env:Env):cY cm k (A.deeper env):=
 ⟨r.hd,by have:=r.dp;show A.depth+1+3*k+5<_;omega,by have:=r.un;show A.units+3+16*k+200<_;omega⟩
theorem yE{A:Around}{C:Addr}{us:List Value}{kw:List (Str×Value)}:(A.under (.builtin "type.__call__" ⟨.ref C::us,kw⟩)).depth=A.depth+1:=by
 first|rfl|simp[Around.under,Code.weight,Code.isCreation,Code.isGuard,Code.isCaller,Code.frames,Code.isFrame,guardIds]
theorem yF{A:Around}{C:Addr}{us:List Value}{kw:List (Str×Value)}:(A.under (.builtin "type.__call__" ⟨.ref C::us,kw⟩)).units=A.units+1:=by
 first|rfl|simp[Around.under,Code.cUnits,Code.frames,Code.isFrame]
theorem cY.make{cm:Bool}{k:Nat}{A:Around}(r:cY cm (k+1) A)(C:Addr)(us:List Value)(kw:List (Str×Value)):cY cm k (A.under (.builtin "type.__call__" ⟨.ref C::us,kw⟩)):=
 ⟨r.hd,by have:=r.dp;rw[yE];omega,by have:=r.un;rw[yF];omega⟩
theorem cY.depth{cm:Bool}{k:Nat}{A:Around}(r:cY cm k A):A.depth<recursionLimit:=by have:=r.dp;omega
theorem cY.units{cm:Bool}{k:Nat}{A:Around}(r:cY cm k A):A.units+64<cLine:=by have:=r.un;omega
def CI:TA:=fun _ H Q=>Q [] H
def HC(ta:TE)(tr:TA):TA:=fun σ H Q=>ta σ H fun x H1=>tr σ H1 fun xs H2=>Q (x::xs) H2
section
variable{X:Cx}{e:Expr}{es:List Expr}{te:TE}{t:TA}{pos:Pos}
theorem af:PA X [] CI:=fun _ _ _ _ H Q I h=>Calls.spliced_nil ⟨[],H,I, .nil,h⟩
theorem FP(ha:PE X e te)(hr:PA X es t)(hs:starEach (e::es) X.env=(false,eval e X.env)::starEach es X.env:=by rfl):PA X (e::es) (HC te t):=by
 intro pos pins s σ H Q I h;rw[hs];show wpAny _ _ (spliced ((false,eval e X.env)::backTo pos (starEach es X.env))) _ _ s;refine Calls.spliced_cons (cz (ha pins s σ H _ I h) fun u s1 ⟨x,H1,I1,r1,q1⟩=>?_);exact cz (hr pos pins s1 σ H1 _ I1 q1) fun us s2 ⟨xs,H2,I2,r2,q2⟩=>⟨x::xs,H2,I2, .cons r1 r2,q2⟩
def Qu(t:TA):TE:=fun σ H Q=>t σ H fun xs H1=>xs.length≤sizeLine∧∀p,H1 p=none→Q (.ref p) (upd H1 p (.tup xs))
def Qv(t:TA):TE:=fun σ H Q=>t σ H fun xs H1=>xs.length≤sizeLine∧∀p,H1 p=none→Q (.ref p) (upd H1 p (.lst xs))
theorem e_{x1}(h:PA X es t):PE X (.Tuple es x1 pos) (Qu t):=by
 intro pins s σ H Q I hq;refine wpAny_Tuple_spliced (cz (h pos pins s σ H _ I hq) fun us s1 ⟨xs,H1,I1,r,z,q⟩=>⟨by rw[←r.length];exact z,?_⟩);have hf:H1 s1.heap.objs.size=none:=I1.bH.fresh (Nat.le_refl _);refine⟨.ref s1.heap.objs.size,upd H1 s1.heap.objs.size (.tup xs),I1.laid (t':=s1.toks) (fun b u e=>Zj e) (Nat.le_refl _) ?_,rfl,q _ hf⟩;exact⟨z,us,r,⟨_,Heap.get?_push_size _ rfl,rfl,_,rfl⟩⟩
theorem bS(h:PA X es t):PE X (.List es pos) (Qv t):=by
 intro pins s σ H Q I hq;refine wpAny_List_spliced (cz (h pos pins s σ H _ I hq) fun us s1 ⟨xs,H1,I1,r,z,q⟩=>⟨by rw[←r.length];exact z,?_⟩);have hf:H1 s1.heap.objs.size=none:=I1.bH.fresh (Nat.le_refl _);refine⟨.ref s1.heap.objs.size,upd H1 s1.heap.objs.size (.lst xs),I1.laid (t':=s1.toks) (fun b u e=>Zj e) (Nat.le_refl _) ?_,rfl,q _ hf⟩;exact⟨z,us,0,r,Heap.get?_push_size _ rfl⟩
end
abbrev Sp:=List V→Hp→VK→XK→Prop
abbrev CJ:=List Env→Hp→Shared→XK→Value→Shared→Prop
structure yG(P:Program)(w:World)(K:PySem.W.Frag)(mg:Str→Option Value)(base:Heap)(A:Around)(outer:List Env)(s:Shared)(H:Hp):Prop where
 frames:A.frames=some outer
 mod:Mod K mg base
 bs:∀b o,base.get? b=some o→s.heap.get? b=some o∧H b=none
 Fz:base.objs.size≤s.heap.objs.size
 qH:s.heap.FunFrames base outer
 I_:∀b∈kN outer,H b=none
 bH:kF P w H s.heap
 bare:AllBare s.gens
def CE(outer:List Env)(P:Program)(w:World)(H:Hp)(s:Shared)(Q:VK)(u:Value)(s':Shared):Prop:=
 ∃v H',s'.os=s.os∧AllBare s'.gens∧Un (kN outer) [] H H' s.heap s'.heap∧kF P w H' s'.heap∧RelV v u∧Q v H'
def CR(CX:CJ)(outer:List Env)(P:Program)(w:World)(H:Hp)(s:Shared)(Q:VK)(E:XK)(r:Result)(s':Shared):Prop:=
 match r with
 | .ok (.ret u)=>CE outer P w H s Q u s'
 | .ok _=>False
 | .error e=>CX outer H s E e s'
structure bf(P:Program)(w:World)(K:PySem.W.Frag)(mg:Str→Option Value)(base:Heap)(CX:CJ)(cm:Bool)(k:Nat)(f:Addr)(fd:FuncData)(ps:List Str)(sp:Sp):Prop where
 len:∀vs H Q E,sp vs H Q E→vs.length=ps.length
 run:∀(A:Around)(outer:List Env)(s:Shared)(H:Hp)(args:Args)(us:List Value)(vs:List V)(Q:VK)(E:XK),cY cm k A→yG P w K mg base A outer s H→BindsTo s fd args (ps.zip us)→Vals vs us→sp vs H Q E→
  codeAny (model P w) A (.call (.ref f) args) (CR CX outer P w H s Q E) s
theorem yG.make{P:Program}{w:World}{K:PySem.W.Frag}{mg:Str→Option Value}{base:Heap}{A:Around}{outer:List Env}{s:Shared}{H:Hp}(e:yG P w K mg base A outer s H)(C:Addr)(us:List Value)(kw:List (Str×Value)):
  yG P w K mg base (A.under (.builtin "type.__call__" ⟨.ref C::us,kw⟩)) outer s H:=⟨by first|exact e.frames|(simpa[Around.under,Code.envs,Code.isFrame,pushEnvs]using e.frames),e.mod,e.bs,e.Fz,e.qH,e.I_,e.bH,e.bare⟩
section
variable{X:Cx}{pins:List (Addr×Obj)}{σ:St}{H:Hp}{s s':Shared}
theorem Inv.Jq(I:Inv X pins σ H s):yG X.prog X.w X.K X.mg X.base X.A X.stack s H:=
 ⟨I.ok.frames,I.ok.mod,I.bs,Nat.le_trans I.ok.Fz I.sz,I.stack,I.vc,I.bH,I.bare⟩
theorem Inv.after{Q:VK}{u:Value}(I:Inv X pins σ H s)(h:CE X.stack X.prog X.w H s Q u s'):EP X pins σ Q u s':=by
 obtain⟨v,H',os,bare,un,bH,r,q⟩:=h;obtain⟨hh,g,d,t,VE⟩:=s';obtain rfl:VE=s.os:=os;exact⟨v,H',I.call (h':=hh) (g':=g) (d':=d) (t':=t) (ch:=[]) un bH bare (fun b z=>absurd z Zr),r,q⟩
end
def HE(sp:Sp)(lM:List V)(E:St→XK)(t:TA):TE:=fun σ H Q=>t σ H fun vs H1=>sp (vs++lM) H1 Q (E σ)
def Z9(C:Addr)(m:Str)(sp:Sp)(lM:List V)(E:St→XK)(ta:TE)(t:TA):TE:=fun σ H Q=>ta σ H fun x H1=>∃a dx fs,x= .ref a∧H1 a=some (.ins C dx fs)∧fs.lookup m=none∧
 t σ H1 fun vs H2=>sp (x::(vs++lM)) H2 Q (E σ)
def ZA(C:Addr)(sp:Sp)(lM:List V)(E:St→XK)(t:TA):TE:=fun σ H Q=>t σ H fun vs H1=>∀x dx,H1 x=none→H1 dx=none→dx≠x→
 sp (.ref x::(vs++lM)) (upd (upd H1 dx (.own x)) x (.ins C dx [])) (fun v H2=>v= .cn∧Q (.ref x) H2) (E σ)
def Binds(K:PySem.W.Frag)(fd:FuncData)(ps:List Str)(ds:List Value):Prop:=
 ∀(s:Shared)(us:List Value),K.In s.heap→(us++ds).length=ps.length→BindsTo s fd ⟨us,[]⟩ (ps.zip (us++ds))
theorem Binds.all{K:PySem.W.Frag}{fd:FuncData}{ps:List Str}(h:∀us:List Value,us.length=ps.length→bindArgs fd ⟨us,[]⟩=pure (ps.zip us)):Binds K fd ps []:=fun s us _ hl=>by
 rw[List.append_nil]at hl⊢;exact .of_eq (h us hl)
def Passes(CX:CJ)(X:Cx)(E:St→XK):Prop:=∀(pins:List (Addr×Obj))(σ:St)(H:Hp)(s:Shared)(e:Value)(s':Shared),Inv X pins σ H s→CX X.stack H s (E σ) e s'→X.xe e s'
section
variable{X:Cx}{CX:CJ}{cm:Bool}{k:Nat}{f C:Addr}{fd:FuncData}{ps:List Str}{sp:Sp}{lM:List V}{ds:List Value}{E:St→XK}{x m:Str}{p pos apos:Pos}{e o:Expr}{es:List Expr}{ta:TE}{t:TA}
theorem yH{pins:List (Addr×Obj)}{σ:St}{H:Hp}{s:Shared}{Q:VK}{us:List Value}{vs:List V}(F:bf X.prog X.w X.K X.mg X.base CX cm k f fd ps sp)(hr:cY cm k X.A)(hb:Binds X.K fd ps ds)(hd:Vals lM ds)(hx:Passes CX X E)
  (I:Inv X pins σ H s) (r:Vals vs us) (h:sp (vs++lM) H Q (E σ)):wpAny (model X.prog X.w) X.A (call (.ref f) us) (EP X pins σ Q) X.xe s:=by
 have r2:Vals (vs++lM) (us++ds):=r.append hd;have hl:(us++ds).length=ps.length:=by rw[←r2.length];exact F.len _ _ _ _ h
 refine wpAny_call (codeAny_mono (F.run X.A X.stack s H ⟨us,[]⟩ (us++ds) (vs++lM) Q (E σ) hr I.Jq (hb s us I.nI hl) r2 h) fun r s' hq=>?_);cases r with
 |error e=>exact hx pins σ H s e s' I hq
 |ok fl=>
  cases fl with
  |ret u=>exact I.after hq
  |next=>exact False.elim hq
  |brk=>exact False.elim hq
  |cont=>exact False.elim hq
theorem FQ(F:bf X.prog X.w X.K X.mg X.base CX cm k f fd ps sp)(hr:cY cm k X.A)(hg:Gl X x)(hm:X.mg x=some (.ref f))(hk:PySem.W.keepIn X.K (.ref f)=true)(hb:Binds X.K fd ps ds)(hd:Vals lM ds)(hx:Passes CX X E)
  (ha:PA X (e::es) t) (tT:(x==("__debug__":Str))=false:=by decide) (he:starEach (e::es) X.env=(false,eval e X.env)::starEach es X.env:=by rfl) (pG:(backTo pos (starEach es X.env)).any (·.1)=false:=by rfl):
  PE X (.Call (.Name x p) (e::es) [] pos) (HE sp lM E t):=by
 intro pins s σ H Q I h;refine wpAny_Call_Name_kw (lK I hg hm ?_ tT);refine PySem.W.callWith_K (h₀:=X.base) I.ok.mod.Lh hk (cz (ha pos pins s σ H _ I h) fun us s1 ⟨vs,H1,I1,r,q⟩=>⟨I1.nI,?_⟩) he pG;exact yH F hr hb hd hx I1 r q
theorem FR{pl:Sem Bool}(he:PE X o ta)(c:vf X.K C)(hm:Meth X.K C m f)(F:bf X.prog X.w X.K X.mg X.base CX cm k f fd ps sp)(hr:cY cm k X.A)(hb:Binds X.K fd ps ds)(hd:Vals lM ds)(hx:Passes CX X E)(ha:PA X (e::es) t)
  (uA:starEach (e::es) X.env=(false,eval e X.env)::starEach es X.env:=by rfl) (pG:(backTo pos (starEach es X.env)).any (·.1)=false:=by rfl)
  (ht:eval (.Call (.Attribute o m apos) (e::es) [] pos) X.env=(do
   let ov←eval o X.env
   standAt apos.atName
   let (f,first)←holding [ov] (getMethod ov m pl)
   callWith pos f first (backTo pos (starEach (e::es) X.env)) (backToKw pos (keywordEach [] X.env))):=by rfl):
  PE X (.Call (.Attribute o m apos) (e::es) [] pos) (Z9 C m sp lM E ta t):=by
 intro pins s σ H Q I h;refine PySem.W.methodCall_KW (pl:=pl) (cz (he pins s σ H _ I h) fun u s1 ⟨x,H1,I1,rx,a,dx,fs,ex,ea,l,q⟩=>?_) ht;subst ex;obtain rfl:u=Value.ref a:=rx;refine mQ I1 ea c hm l ?_;refine PySem.W.callWith_K (first:=[.ref a]) (h₀:=X.base) I.ok.mod.Lh hm.kp (cz (ha pos pins s1 σ H1 _ I1 q) fun us s2 ⟨vs,H2,I2,r,q2⟩=>⟨I2.nI,?_⟩) uA pG;exact yH (us:= .ref a::us) (vs:= .ref a::vs) F hr hb hd hx I2 (.cons rfl r) q2
theorem CK{pl:Sem Bool}(he:PE X o ta)(c:vf X.K C)(hm:Meth X.K C m f)(F:bf X.prog X.w X.K X.mg X.base CX cm k f fd ps sp)(hr:cY cm k X.A)(hb:Binds X.K fd ps ds)(hd:Vals lM ds)(hx:Passes CX X E)
  (ht:eval (.Call (.Attribute o m apos) [] [] pos) X.env=(do
   let ov←eval o X.env
   standAt apos.atName
   let (f,first)←holding [ov] (getMethod ov m pl)
   callWith pos f first (backTo pos (starEach [] X.env)) (backToKw pos (keywordEach [] X.env))):=by rfl):
  PE X (.Call (.Attribute o m apos) [] [] pos) (Z9 C m sp lM E ta CI):=by
 intro pins s σ H Q I h;refine PySem.W.methodCall_KW (pl:=pl) (cz (he pins s σ H _ I h) fun u s1 ⟨x,H1,I1,rx,a,dx,fs,ex,ea,l,q⟩=>?_) ht;subst ex;obtain rfl:u=Value.ref a:=rx;refine mQ I1 ea c hm l ?_;exact PySem.W.callWith_K0 (first:=[.ref a]) I1.nI hm.kp (yH (us:=[.ref a]) (vs:=[.ref a]) F hr hb hd hx I1 (.cons rfl .nil) q)
structure Mk(K:PySem.W.Frag)(C f:Addr):Prop where
 makes:PySem.W.makesIn K C=true
 init:PySem.W.findIn K (.ref C) "__init__"=some (some (.ref f))
 fn:PySem.W.isFn K (.ref f)=true
 kp:PySem.W.keepIn K (.ref C)=true
theorem xc{pins:List (Addr×Obj)}{σ:St}{H:Hp}{s:Shared}{Q:VK}{us:List Value}{vs:List V}(M:Mk X.K C f)(F:bf X.prog X.w X.K X.mg X.base CX cm k f fd ps sp)(hr:cY cm (k+1) X.A)(hb:Binds X.K fd ps ds)(hd:Vals lM ds)
  (hx:Passes CX X E) (I:Inv X pins σ H s) (r:Vals vs us)
  (h:∀x dx,H x=none→H dx=none→dx≠x→sp (.ref x::(vs++lM)) (upd (upd H dx (.own x)) x (.ins C dx [])) (fun v H2=>v= .cn∧Q (.ref x) H2) (E σ)):
  wpAny (model X.prog X.w) X.A (call (.ref C) us) (EP X pins σ Q) X.xe s:=by
 have hq:=h (s.heap.objs.size+1) s.heap.objs.size (I.bH.fresh (Nat.le_succ _)) (I.bH.fresh (Nat.le_refl _)) (Nat.ne_of_lt (Nat.lt_succ_self _));have I2:=Inv.made (C:=C) I;have r2:Vals (V.ref (s.heap.objs.size+1)::(vs++lM)) (Value.ref (s.heap.objs.size+1)::(us++ds)):= .cons rfl (r.append hd);have hl:(Value.ref (s.heap.objs.size+1)::us++ds).length=ps.length:=by
  have e:=r2.length;rw[F.len _ _ _ _ hq]at e;exact e.symm
 refine wpAny_call (CD (f:=f) I.nI M.makes M.init (beq_iff_eq.mp M.fn) (codeAny_mono (F.run _ X.stack _ _ ⟨Value.ref (s.heap.objs.size+1)::us,[]⟩ (Value.ref (s.heap.objs.size+1)::(us++ds)) _ _ (E σ) (hr.make C us [])
  (I2.Jq.make C us []) (hb _ (Value.ref (s.heap.objs.size+1)::us) I2.nI hl) r2 hq) fun r s' Mq=>?_))
 cases r with
 |error e=>exact hx pins σ _ _ e s' I2 Mq
 |ok fl=>
  cases fl with
  |ret u=>
   obtain⟨v,H',I3,rv,ev,q3⟩:=I2.after Mq;subst ev;exact⟨rv,⟨V.ref (s.heap.objs.size+1),H',I3,rfl,q3⟩⟩
  |next=>exact False.elim Mq
  |brk=>exact False.elim Mq
  |cont=>exact False.elim Mq
theorem FT(M:Mk X.K C f)(F:bf X.prog X.w X.K X.mg X.base CX cm k f fd ps sp)(hr:cY cm (k+1) X.A)(hg:Gl X x)(hm:X.mg x=some (.ref C))(hb:Binds X.K fd ps ds)(hd:Vals lM ds)(hx:Passes CX X E)
  (ha:PA X (e::es) t) (tT:(x==("__debug__":Str))=false:=by decide) (he:starEach (e::es) X.env=(false,eval e X.env)::starEach es X.env:=by rfl) (pG:(backTo pos (starEach es X.env)).any (·.1)=false:=by rfl):
  PE X (.Call (.Name x p) (e::es) [] pos) (ZA C sp lM E t):=by
 intro pins s σ H Q I h;refine wpAny_Call_Name_kw (lK I hg hm ?_ tT);refine PySem.W.callWith_K (h₀:=X.base) I.ok.mod.Lh M.kp (cz (ha pos pins s σ H _ I h) fun us s1 ⟨vs,H1,I1,r,q⟩=>⟨I1.nI,?_⟩) he pG;exact xc M F hr hb hd hx I1 r q
theorem CL(M:Mk X.K C f)(F:bf X.prog X.w X.K X.mg X.base CX cm k f fd ps sp)(hr:cY cm (k+1) X.A)(hg:Gl X x)(hm:X.mg x=some (.ref C))(hb:Binds X.K fd ps ds)(hd:Vals lM ds)(hx:Passes CX X E)
  (tT:(x==("__debug__":Str))=false:=by decide):PE X (.Call (.Name x p) [] [] pos) (ZA C sp lM E CI):=by
 intro pins s σ H Q I h;refine wpAny_Call_Name_kw (lK I hg hm ?_ tT);exact PySem.W.callWith_K0 I.nI M.kp (xc (us:=[]) M F hr hb hd hx I .nil h)
end
section
variable{X:Cx}{CX:CJ}{cm:Bool}{k:Nat}{f C:Addr}{fd:FuncData}{ps ks:List Str}{sp:Sp}{E:St→XK}{x m:Str}{p pos apos VF:Pos}{e o:Expr}{es:List Expr}{Yq:List Keyword}{te ta:TE}{t tk:TA}{nm:Option Str}
variable{g:List Value→List Value→List Value}{gV:List V→List V→List V}
end
structure aJ(N P:List Str)(sc:Scope):Prop where
 kind:sc.kind= .function
 co:sc.isCoroutine=false
 gen:sc.isGenerator=false
 nd:N.Nodup
 pre:N.take P.length=P
 par:∀x∈P,sc.names.lookup x=some .local∨sc.names.lookup x=some .cell
 Jr:∀y∈sc.names,y.2≠ .free
theorem uB{kindOf:Str→Option NameKind}{x:Str}:∀{binds:List (Str×Value)}{m:Str→Option Value},(∀v,(x,v)∉binds)→bindL kindOf binds m x=m x
 |[],_,_=>rfl
 |(n,v)::r,m,h=>by
  unfold bindL;rw[uB fun w hw=>h w (List.mem_cons_of_mem _ hw)];split
  ·have:x≠n:=by rintro rfl;exact h v List.mem_cons_self
   simp[this]
  ·rfl
theorem uC{kindOf:Str→Option NameKind}{x:Str}:∀{binds:List (Str×Value)}{m:Str→Option Value},(∀v,(x,v)∉binds)→bindC kindOf binds m x=m x
 |[],_,_=>rfl
 |(n,v)::r,m,h=>by
  unfold bindC;rw[uC fun w hw=>h w (List.mem_cons_of_mem _ hw)];split
  ·rfl
  ·have:x≠n:=by rintro rfl;exact h v List.mem_cons_self
   simp[this]
theorem uD{kindOf:Str→Option NameKind}{x:Str}{v:Value}:∀{P:List Str}{vs:List Value}{i:Nat}{m:Str→Option Value},P.Nodup→P[i]?=some x→vs[i]?=some v→kindOf x=some .local→
  bindL kindOf (P.zip vs) m x=some v
 |[],_,_,_,_,h,_,_=>by simp at h
 | _::_,[],_,_,_,_,h,_=>by simp at h
 |p::P,w::vs,0,m,nd,h1,h2,hk=>by
  simp at h1 h2;subst h1;subst h2;show bindL kindOf ((p,w)::P.zip vs) m p=_;unfold bindL;rw[uB fun v hv=>(List.nodup_cons.mp nd).1 (List.of_mem_zip hv).1,Zi hk];simp
 |p::P,w::vs,i+1,m,nd,h1,h2,hk=>by
  show bindL kindOf ((p,w)::P.zip vs) m x=_;unfold bindL;exact uD (i:=i) (List.nodup_cons.mp nd).2 (by simpa using h1) (by simpa using h2) hk
theorem uE{kindOf:Str→Option NameKind}{x:Str}{v:Value}:∀{P:List Str}{vs:List Value}{i:Nat}{m:Str→Option Value},P.Nodup→P[i]?=some x→vs[i]?=some v→kindOf x≠some .local→
  bindC kindOf (P.zip vs) m x=some v
 |[],_,_,_,_,h,_,_=>by simp at h
 | _::_,[],_,_,_,_,h,_=>by simp at h
 |p::P,w::vs,0,m,nd,h1,h2,hk=>by
  simp at h1 h2;subst h1;subst h2;show bindC kindOf ((p,w)::P.zip vs) m p=_;unfold bindC;rw[uC fun v hv=>(List.nodup_cons.mp nd).1 (List.of_mem_zip hv).1,Ze hk];simp
 |p::P,w::vs,i+1,m,nd,h1,h2,hk=>by
  show bindC kindOf ((p,w)::P.zip vs) m x=_;unfold bindC;exact uE (i:=i) (List.nodup_cons.mp nd).2 (by simpa using h1) (by simpa using h2) hk
def start(N:List Str)(vs:List V):St:=vs.map some++List.replicate (N.length-vs.length) none
def yI(CX:CJ)(cm:Bool)(P:Program)(w:World)(K:PySem.W.Frag)(mg:Str→Option Value)(base:Heap)(N:List Str)(qual:Str)(scope:Scope)(f:Addr)(cd:Value)(A:Around)(outer:List Env)(s:Shared)(H:Hp)(E:XK):Cx where
 prog:=P
 w:=w
 K:=K
 mg:=mg
 base:=base
 A:=A.deeper (envOfC qual scope s.heap.objs.size f cd)
 N:=N
 cL:=s
 eD:=H
 env:=envOfC qual scope s.heap.objs.size f cd
 outer:=outer
 stack:=envOfC qual scope s.heap.objs.size f cd::outer
 ex:=[]
 calm:=cm
 fn:=fun _=>true
 pn:=[]
 xe:=fun e s'=>wpAny (model P w) (A.deeper (envOfC qual scope s.heap.objs.size f cd)) (leaving (envOfC qual scope s.heap.objs.size f cd) e) (fun _ vh=>CX outer H s E e vh) (fun e' vh=>CX outer H s E e' vh) s'
theorem xf{sc:Scope}{n:Nat}{x:Str}(h:sc.names.lookup x=some .cell):∃c,(cellsFrom n sc.names []).lookup x=some c:=by
 have q:=PySem.W.cellsFrom_some sc.names n [] (.inl h);exact Option.isSome_iff_exists.mp q
theorem Bd{CX:CJ}{cm:Bool}{P:Program}{w:World}{K:PySem.W.Frag}{mg:Str→Option Value}{base:Heap}{N ps:List Str}{qual:Str}{scope:Scope}{f:Addr}{cd:Value}{A:Around}{outer:List Env}{s s1:Shared}{H:Hp}{E:XK}{us:List Value}{vs:List V}
  (S:aJ N ps scope) (hd:cm=true→A.handled=none) (e0:yG P w K mg base A outer s H) (hl:vs.length=ps.length) (r:Vals vs us)
  (x:InCallC s s.heap.objs.size (bindL (envOfC qual scope s.heap.objs.size f cd).kindOf (ps.zip us) fun _=>none) (cellsFrom (s.heap.objs.size+1) scope.names []) (bindC (envOfC qual scope s.heap.objs.size f cd).kindOf (ps.zip us) fun _=>none) s1):
  Inv (yI CX cm P w K mg base N qual scope f cd A outer s H E) [] (start N vs) H s1:=by
 have pG:ps.length≤N.length:=by have:=congrArg List.length S.pre;rw[List.length_take]at this;omega
 obtain⟨h1,tk,rfl,hk⟩:=x.done;have Mr:∀b:Addr,b∉(yI CX cm P w K mg base N qual scope f cd A outer s H E).ex:=fun b z=>absurd (show b∈([]:List Addr)from z) (Zx)
 refine⟨⟨e0.mod,S.kind,rfl,rfl,Nat.le_refl _,fun y z c h1 h2=>?_,fun y hy=>?_,fun y c _ h=>?_,fun z=>hd z,Around.frames_deeper e0.frames, .inr ⟨rfl,rfl⟩,fun b z=>absurd z (Mr b),e0.bs,e0.Fz,fun b _ _=>Mr b,fun b z=>absurd z (Mr b),e0.qH,e0.I_⟩,
  rfl,e0.bare,Un.kept hk,⟨_,x.toInCall.ns,fun i y v h1 h2 h3=>?_⟩,fun y c h=>⟨_,x.cell y c h⟩,e0.bH.fresh (Nat.le_refl _),fun y c h=>?_,fun p hp=>absurd (show p∈([]:List (Addr×Obj))from hp) (Zx),e0.bH.kept hk,?_⟩
 ·exact name_of_addr x.apart (PySem.mem_of_lookup h1) (PySem.mem_of_lookup h2)
 ·have hy:scope.names.lookup y=some .cell∨scope.names.lookup y=some .free:=hy;rcases hy with hy|hy
  ·exact xf hy
  ·exact absurd rfl (S.Jr _ (PySem.mem_of_lookup hy))
 ·exact Nat.le_of_lt (x.above y c (PySem.mem_of_lookup h))
 ·have hi:i<vs.length:=by
   unfold start at h2;by_cases hi:i<vs.length
   ·exact hi
   ·rw[List.getElem?_append_right (by simpa using hi)]at h2;rw[List.getElem?_replicate]at h2;split at h2<;>cases h2
  have ha:vs[i]?=some v:=by
   unfold start at h2;rw[List.getElem?_append_left (by simpa using hi),List.getElem?_map]at h2;cases e:vs[i]? with
   |none=>rw[e]at h2;cases h2
   |some a=>rw[e]at h2;cases h2;rfl
  obtain⟨u,hu,rv⟩:=r.get ha;have hp:ps[i]?=some y:=by
   rw[←S.pre,List.getElem?_take_of_lt (Zu)];exact h1
  have S_:ps.Nodup:=by rw[←S.pre];exact S.nd.sublist (List.take_sublist _ _)
  refine⟨u,rv,?_⟩;rcases S.par y (Zd hp)with k|k
  ·exact .inl ⟨k,uD S_ hp hu k⟩
  ·obtain⟨c,e⟩:=xf (n:=s.heap.objs.size+1) k;refine .inr ⟨.inl k,c,e,?_⟩;have q:=x.cell y c e;rw[uE S_ hp hu (by show scope.names.lookup y≠_;rw[k];decide)]at q;exact q
 ·exact e0.bH.fresh (Nat.le_of_lt (x.above y c (PySem.mem_of_lookup h)))
 ·unfold start;show _=N.length;rw[List.length_append,List.length_map,List.length_replicate];omega
theorem HF{CX:CJ}{cm:Bool}{P:Program}{w:World}{K:PySem.W.Frag}{mg:Str→Option Value}{base:Heap}{k:Nat}{f:Addr}{name qual:Str}{params:Arguments}{body:List Stmt}{scope:Scope}{dV kV doc pm gw ct oc:Value}{an od:Option Addr}
  {Z1:Array (Option Value)} {N ps:List Str} {sp:Sp} (lk:K.lookup f=some ⟨oc,od, .func (PySem.W.fnOf name qual params body scope dV kV doc pm an gw ct),Z1⟩) (A5:PySem.W.codeIn K gw qual=true) (S:aJ N ps scope)
  (len:∀vs H Q E,sp vs H Q E→vs.length=ps.length)
  (xg:∀(A:Around)(outer:List Env)(s:Shared)(H:Hp)(vs:List V)(Q:VK)(E:XK),cY cm k (A.deeper (envOfC qual scope s.heap.objs.size f gw))→sp vs H Q E→
   ∃t,yy (yI CX cm P w K mg base N qual scope f gw A outer s H E) body t∧t {nx:=fun _ H'=>Q .cn H',rt:=Q} (start N vs) H):
  bf P w K mg base CX cm (k+1) f (PySem.W.fnOf name qual params body scope dV kV doc pm an gw ct) ps sp:=by
 refine⟨len,fun A outer s H args us vs Q E hr e0 hb r Ff=>?_⟩;have hl:=len _ _ _ _ Ff;have KX:K.In s.heap:=e0.mod.Lh.keeps fun b o e=>(e0.bs b o e).1
 have lim:s.heap.NoLimit:=e0.mod.nolimit.keeps fun b o e=>(e0.bs b o e).1
 have Ms:∀y∈ps.zip us,scope.names.lookup y.1=some .local∨(scope.names.lookup y.1=some .cell∧((cellsFrom (s.heap.objs.size+1) scope.names []).lookup y.1).isSome=true):=fun⟨n,v⟩ hy=>by
  rcases S.par n (List.of_mem_zip hy).1 with q|q
  ·exact .inl q
  ·exact .inr ⟨q,PySem.W.cellsFrom_some _ _ _ (.inl q)⟩
 refine codeAny_call_function hr.depth (KX _ _ lk) rfl S.co S.gen rfl (PySem.W.codeRec_of KX A5) (hb _ _ _ _ ?_);refine wpAny_newFunctionEnv_cells S.kind Ms fun env he s1 x=>?_
 subst he;refine⟨lim.keeps x.toInCall.keep,codeAny_func ?_⟩;obtain⟨t,ht,hq⟩:=xg A outer s H vs Q E (hr.deeper _) Ff;have I:Inv (yI CX cm P w K mg base N qual scope f gw A outer s H E) [] (start N vs) H s1:=Bd S hr.hd e0 hl r x;refine wpAny_mono (ht [] s1 (start N vs) H _ I hq) (fun fl s' hs=>?_) fun e s' hs=>hs
 have fin:∀{a7:St}{H':Hp}{v:V}{u:Value},Inv (yI CX cm P w K mg base N qual scope f gw A outer s H E) [] a7 H' s'→RelV v u→Q v H'→CE outer P w H s Q u s':=
  fun{a7 H' v u} J rv q=>⟨v,H',J.os,J.bare,J.base,J.bH,rv,q⟩
 cases fl with
 |ret u=>
  obtain⟨v,a7,H',J,rv,q⟩:=hs;exact fin J rv q
 |next=>
  obtain⟨a7,H',J,q⟩:=hs;exact fin (v:=V.cn) (u:=Value.none) J rfl q
 |brk=>
  obtain⟨_,_,_,q⟩:=hs;exact False.elim q
 |cont=>
  obtain⟨_,_,_,q⟩:=hs;exact False.elim q
section
variable{X:Cx}{x:Str}{p pos:Pos}{e:Expr}{es:List Expr}{t:TA}{id T:String}{r:List V→Hp→VK→Prop}
def Td(r:List V→Hp→VK→Prop)(t:TA):TE:=fun σ H Q=>t σ H fun vs H1=>r vs H1 Q
theorem aE(hc:gY X (.builtin id) r)(hg:Gl X x)(hm:X.mg x=none)(hv:bootBuiltins x=some (.builtin id))(ha:PA X (e::es) t)(hn:x≠"__name__":=by decide)(tT:(x==("__debug__":Str))=false:=by decide)
  (he:starEach (e::es) X.env=(false,eval e X.env)::starEach es X.env:=by rfl) (pG:(backTo pos (starEach es X.env)).any (·.1)=false:=by rfl):PE X (.Call (.Name x p) (e::es) [] pos) (Td r t):=by
 intro pins s σ H Q I h;refine wpAny_Call_Name_kw (jZ I hg hm hv ?_ hn tT);exact PyProof.Rows.callWith_builtin1 (cz (ha pos pins s σ H _ I h) fun us s1 ⟨vs,H1,I1,r1,q1⟩=>hc pins s1 σ H1 vs us Q I1 r1 q1) he pG
theorem Be(hc:gY X (.type T) r)(hg:Gl X x)(hm:X.mg x=none)(hv:bootBuiltins x=some (.type T))(ha:PA X (e::es) t)(hn:x≠"__name__":=by decide)(tT:(x==("__debug__":Str))=false:=by decide)
  (he:starEach (e::es) X.env=(false,eval e X.env)::starEach es X.env:=by rfl) (pG:(backTo pos (starEach es X.env)).any (·.1)=false:=by rfl):PE X (.Call (.Name x p) (e::es) [] pos) (Td r t):=by
 intro pins s σ H Q I h;refine wpAny_Call_Name_kw (jZ I hg hm hv ?_ hn tT);exact PyProof.Rows.callWith_type1 (cz (ha pos pins s σ H _ I h) fun us s1 ⟨vs,H1,I1,r1,q1⟩=>hc pins s1 σ H1 vs us Q I1 r1 q1) he pG
end
section
variable{κ:Type}[DecidableEq κ]
def bu(kvs:List (κ×V))(k:κ):Option V:=(kvs.find? fun kv=>decide (kv.1=k)).map (·.2)
def putK(kvs:List (κ×V))(k:κ)(v:V):List (κ×V):=
 if (kvs.any fun kv=>decide (kv.1=k))=true then kvs.map (fun kv=>if kv.1=k then(kv.1,v)else kv)else kvs++[(k,v)]
def iJ(kvs:List (κ×V))(k:κ):List (κ×V):=kvs.filter fun kv=>decide (kv.1≠k)
theorem xh{k:κ}:bu ([]:List (κ×V)) k=none:=rfl
theorem cy{p:κ×V}{r:List (κ×V)}{k:κ}(e:p.1=k):bu (p::r) k=some p.2:=by simp[bu,List.find?_cons,e]
theorem cf{p:κ×V}{r:List (κ×V)}{k:κ}(e:¬p.1=k):bu (p::r) k=bu r k:=by simp[bu,List.find?_cons,e]
theorem gZ(k:κ):∀kvs:List (κ×V),(kvs.any fun kv=>decide (kv.1=k))=(bu kvs k).isSome
 |[]=>rfl
 |p::r=>by
  rw[List.any_cons];by_cases e:p.1=k
  ·simp only[cy e,decide_eq_true e,Bool.true_or,Option.isSome_some]
  ·rw[cf e,decide_eq_false e,Bool.false_or];exact gZ k r
theorem xi(k j:κ)(y:V):∀kvs:List (κ×V),bu (kvs.map fun kv=>if kv.1=k then(kv.1,y)else kv) j=(bu kvs j).map fun x=>if j=k then y else x
 |[]=>rfl
 |p::r=>by
  have ih:=xi k j y r;rw[List.map_cons];by_cases h:p.1=k
  ·rw[Zi h];by_cases e:p.1=j
   ·rw[cy (p:=(p.1,y)) e,cy e,Option.map_some,Zi (e.symm.trans h)]
   ·rw[cf (p:=(p.1,y)) e,cf e,ih]
  ·rw[Ze h];by_cases e:p.1=j
   ·rw[cy (p:=p) e,cy e,Option.map_some,Ze (fun z=>h (e.trans z))]
   ·rw[cf (p:=p) e,cf e,ih]
theorem uF(k j:κ)(y:V):∀kvs:List (κ×V),bu kvs k=none→bu (kvs++[(k,y)]) j=if j=k then some y else bu kvs j
 |[],_=>by
  by_cases e:k=j
  ·rw[Zi e.symm];exact cy (p:=(k,y)) e
  ·rw[Ze (fun z=>e z.symm)];exact cf (p:=(k,y)) e
 |p::r,hn=>by
  rw[List.cons_append];have hk:¬p.1=k:=fun z=>by rw[cy z]at hn;cases hn
  rw[cf hk]at hn;have ih:=uF k j y r hn;by_cases e:p.1=j
  ·rw[cy e,cy e,Ze (fun z=>hk (e.trans z))]
  ·rw[cf e,cf e,ih]
theorem jE(kvs:List (κ×V))(k j:κ)(y:V):bu (putK kvs k y) j=if j=k then some y else bu kvs j:=by
 unfold putK;by_cases a:(kvs.any fun kv=>decide (kv.1=k))=true
 ·rw[Zi a,xi];rw[gZ]at a;by_cases e:j=k
  ·obtain⟨x,hx⟩:=Option.isSome_iff_exists.mp a;rw[Zi e,e,hx,Option.map_some,if_pos rfl]
  ·rw[Ze e];cases bu kvs j with
   |none=>rfl
   |some x=>rw[Option.map_some,Ze e]
 ·rw[Ze a];refine uF k j y kvs ?_;rw[gZ]at a;cases q:bu kvs k with
  |none=>rfl
  |some x=>rw[q]at a;exact(a rfl).elim
theorem fG(kvs:List (κ×V))(k:κ)(v:V):(putK kvs k v).length≤kvs.length+1:=by
 unfold putK;split
 ·rw[List.length_map];omega
 ·rw[List.length_append,List.length_cons,List.length_nil];omega
theorem rM{kvs:List (κ×V)}{k:κ}(v:V)(h:bu kvs k=none):putK kvs k v=kvs++[(k,v)]:=by
 unfold putK;rw[gZ,h];exact if_neg (Zv)
theorem jX.jF{o:Option V}{u:Option Value}(r:jX o u):o.isSome=u.isSome:=by
 cases o with
 |none=>cases u with
  |none=>rfl
  |some _=>exact(show False from r).elim
 |some _=>cases u with
  |none=>exact(show False from r).elim
  |some _=>rfl
theorem jX.getD{o:Option V}{u:Option Value}{d:V}{d':Value}(r:jX o u)(rd:RelV d d'):RelV (o.getD d) (u.getD d'):=by
 cases o with
 |none=>cases u with
  |none=>exact rd
  |some _=>exact(show False from r).elim
 |some _=>cases u with
  |none=>exact(show False from r).elim
  |some _=>exact r
theorem KV.val{kvs:List (κ×V)}{vs:List (κ×Value)}(r:KV kvs vs)(k:κ):jX (bu kvs k) (valueAt vs k):=by
 unfold KV at r
 induction r with
 |nil=>exact True.intro
 |@cons p q ps qs h t ih=>
  obtain⟨h1,h2⟩:=h;by_cases e:p.1=k
  ·have e':q.1=k:=h1.symm.trans e;have b:valueAt (q::qs) k=some q.2:=by simp[valueAt,List.find?_cons,e']
   rw[cy e,b];exact h2
  ·have e':¬q.1=k:=fun z=>e (h1.trans z)
   have b:valueAt (q::qs) k=valueAt qs k:=by simp[valueAt,List.find?_cons,e']
   rw[cf e,b];exact ih
theorem KV.any{kvs:List (κ×V)}{vs:List (κ×Value)}(r:KV kvs vs)(k:κ):(kvs.any fun kv=>decide (kv.1=k))=vs.any fun kv=>decide (kv.1=k):=by
 unfold KV at r
 induction r with
 |nil=>rfl
 |cons h t ih=>rw[List.any_cons,List.any_cons,ih,h.1]
theorem KV.Js{kvs:List (κ×V)}{vs:List (κ×Value)}(r:KV kvs vs)(k:κ){y:V}{u:Value}(ry:RelV y u):
  KV (kvs.map fun kv=>if kv.1=k then(kv.1,y)else kv) (vs.map fun kv=>if kv.1=k then(kv.1,u)else kv):=by
 unfold KV at r⊢
 induction r with
 |nil=>exact .nil
 |@cons p q ps qs h t ih=>
  rw[List.map_cons,List.map_cons];refine .cons ?_ ih;obtain⟨h1,h2⟩:=h;by_cases e:p.1=k
  ·rw[Zi e,Zi (h1.symm.trans e)];exact⟨h1,ry⟩
  ·rw[Ze e,Ze (fun z=>e (h1.trans z))];exact⟨h1,h2⟩
theorem KV.put{kvs:List (κ×V)}{vs:List (κ×Value)}(r:KV kvs vs)(k:κ){y:V}{u:Value}(ry:RelV y u):KV (putK kvs k y) (stored vs k u):=by
 unfold putK stored;rw[r.any k];by_cases e:(vs.any fun kv=>decide (kv.1=k))=true
 ·rw[Zi e,Zi e];exact r.Js k ry
 ·rw[Ze e,Ze e];exact Paired.snoc r ⟨rfl,ry⟩
theorem KV.length{kvs:List (κ×V)}{vs:List (κ×Value)}(r:KV kvs vs):kvs.length=vs.length:=Paired.length r
theorem xj(kvs:List (κ×V))(k:κ):(iJ kvs k).length≤kvs.length:=List.length_filter_le _ _
end
theorem uG{P:Program}{w:World}{k:Key}{u:Value}(r:RelV (kV k) u):(cQ P w).is k u=true:=by
 cases k with
 |inl i=>obtain⟨t,e⟩:=(show ∃t,u=Value.int i t from r);subst e;exact wX P w i t
 |inr x=>obtain⟨t,e⟩:=(show ∃t,u=Value.str x t from r);subst e;exact wY P w x t
theorem uH{P:Program}{w:World}:∀{ks:List Key}{us:List Value},Vals (ks.map kV) us→ItemsAre (cQ P w) ks us
 |[],_,r=>by rw[List.map_nil]at r;cases r;exact .nil
 |k::ks,_,r=>by
  rw[List.map_cons]at r;cases r with
  |cons h t=>exact .cons (uG h) (uH t)
abbrev KT(H:Hp):List (List Key×V)→List (List Key×Addr×Value)→Prop:=Paired fun p q=>p.1=q.1∧H q.2.1=some (.tup (p.1.map kV))∧RelV p.2 q.2.2
theorem KT.val{H:Hp}{kvs:List (List Key×V)}{xs:List (List Key×Addr×Value)}(r:KT H kvs xs)(k:List Key):jX (bu kvs k) ((atKey xs k).map (·.2)):=by
 induction r with
 |nil=>exact True.intro
 |@cons p q ps qs h t ih=>
  obtain⟨h1,_,h2⟩:=h;by_cases e:p.1=k
  ·have e':q.1=k:=h1.symm.trans e;have b:atKey (q::qs) k=some q.2:=by simp[atKey,List.find?_cons,e']
   rw[cy e,b];exact h2
  ·have e':¬q.1=k:=fun z=>e (h1.trans z)
   have b:atKey (q::qs) k=atKey qs k:=by simp[atKey,List.find?_cons,e']
   rw[cf e,b];exact ih
theorem KT.Js{H:Hp}{kvs:List (List Key×V)}{xs:List (List Key×Addr×Value)}(r:KT H kvs xs)(k:List Key){y:V}{u:Value}(ry:RelV y u):
  KT H (kvs.map fun kv=>if kv.1=k then(kv.1,y)else kv) (xs.map (putAt k u)):=by
 induction r with
 |nil=>exact .nil
 |@cons p q ps qs h t ih=>
  rw[List.map_cons,List.map_cons];refine .cons ?_ ih;obtain⟨h1,h2,h3⟩:=h;unfold putAt;by_cases e:p.1=k
  ·rw[Zi e,Zi (h1.symm.trans e)];exact⟨h1,h2,ry⟩
  ·rw[Ze e,Ze (fun z=>e (h1.trans z))];exact⟨h1,h2,h3⟩
theorem KT.put{H:Hp}{kvs:List (List Key×V)}{xs:List (List Key×Addr×Value)}(r:KT H kvs xs)(k:List Key){b:Addr}{y:V}{u:Value}(hb:H b=some (.tup (k.map kV)))(ry:RelV y u):
  KT H (putK kvs k y) (storedH xs k b u):=by
 have e:(kvs.any fun kv=>decide (kv.1=k))=(atKey xs k).isSome:=by
  rw[gZ,(r.val k).jF,Option.isSome_map]
 unfold putK storedH;rw[e];by_cases q:(atKey xs k).isSome=true
 ·rw[Zi q,Zi q];exact r.Js k ry
 ·rw[Ze q,Ze q];exact Paired.snoc r ⟨rfl,hb,ry⟩
theorem KT.keeps{H H':Hp}{kvs:List (List Key×V)}{xs:List (List Key×Addr×Value)}(r:KT H kvs xs)(ht:∀b ys,H b=some (.tup ys)→H' b=some (.tup ys)):KT H' kvs xs:=
 Paired.IY r fun _ _ z=>⟨z.1,ht _ _ z.2.1,z.2.2⟩
section
variable{P:Program}{w:World}{H:Hp}{h:Heap}{a:Addr}
theorem HH{u:HO}(ok:kF P w H h)(e:Rd H a u):cB P w H h a u:=e.ok ok
theorem rN{kvs:List (Key×V)}(ok:kF P w H h)(e:Rd H a (.dK kvs)):kvs.length≤sizeLine∧(a==sysModules)=false∧∃vs,KV kvs vs∧h.DictOf (cQ P w) a vs:=
 show cB P w H h a (.dK kvs)from HH ok e
theorem Mt{kvs:List (Key×V)}(ok:kF P w H h)(e:H a=some (.dK kvs)):kvs.length≤sizeLine∧(a==sysModules)=false∧∃vs,KV kvs vs∧h.DictOf (cQ P w) a vs:=rN ok (.inl e)
theorem mR{ks:List Key}(ok:kF P w H h)(e:H a=some (.tup (ks.map kV))):(tupleKind (cQ P w)).is h ks a:=by
 obtain⟨_,its,r,o,h1,h2,n,h3⟩:=(show cB P w H h a (.tup (ks.map kV))from ok a _ e)
 exact⟨o,its.toArray,n,h1,h2,h3,by simpa using uH r⟩
theorem rO{kvs:List (List Key×V)}(ok:kF P w H h)(e:Rd H a (.dT kvs)):kvs.length≤sizeLine∧(a==sysModules)=false∧
  ∃xs,KT H kvs xs∧h.DictOfH (tupleKind (cQ P w)) a xs:=by
 obtain⟨z,y,xs,r,o,es,ep,h1,h2,h3,h4,h5⟩:=(show cB P w H h a (.dT kvs)from HH ok e)
 refine⟨z,y,xs,r,o,es,ep,h1,h2,h3,h4,fun x hx=>?_,h5⟩;have all:∀{l:List (List Key×V)}{m:List (List Key×Addr×Value)},KT H l m→∀x∈m,(tupleKind (cQ P w)).is h x.1 x.2.1:=by
  intro l m q
  induction q with
  |nil=>intro x hx;exact nomatch hx
  |@cons p q ps qs hq t ih=>
   intro x hx;rcases List.mem_cons.mp hx with e|hx
   ·subst e;exact mR ok (by rw[←hq.1];exact hq.2.1)
   ·exact ih x hx
 exact all r x hx
theorem HI{kvs:List (List Key×V)}(ok:kF P w H h)(e:H a=some (.dT kvs)):kvs.length≤sizeLine∧(a==sysModules)=false∧
  ∃xs,KT H kvs xs∧h.DictOfH (tupleKind (cQ P w)) a xs:=rO ok (.inl e)
end
def jG(H:Hp)(a:Addr)(y:V)(r:Option V):Prop:=
 (∃kvs k,Rd H a (.dK kvs)∧y=kV k∧r=bu kvs k)∨∃kvs k b,Rd H a (.dT kvs)∧y= .ref b∧H b=some (.tup (k.map kV))∧r=bu kvs k
def FU(H:Hp)(a:Addr)(y v:V)(H':Hp):Prop:=
 (∃kvs k,H a=some (.dK kvs)∧y=kV k∧kvs.length<sizeLine∧H'=upd H a (.dK (putK kvs k v)))∨
 ∃kvs k b,H a=some (.dT kvs)∧y= .ref b∧H b=some (.tup (k.map kV))∧kvs.length<sizeLine∧H'=upd H a (.dT (putK kvs k v))
theorem jG.t{H:Hp}{a b:Addr}{kvs:List (List Key×V)}{k:List Key}(e:H a=some (.dT kvs))(eb:H b=some (.tup (k.map kV))):jG H a (.ref b) (bu kvs k):= .inr ⟨kvs,k,b, .inl e,rfl,eb,rfl⟩
theorem FU.t{H:Hp}{a b:Addr}{kvs:List (List Key×V)}{k:List Key}{v:V}(e:H a=some (.dT kvs))(eb:H b=some (.tup (k.map kV)))(hl:kvs.length<sizeLine):
  FU H a (.ref b) v (upd H a (.dT (putK kvs k v))):= .inr ⟨kvs,k,b,e,rfl,eb,hl,rfl⟩
section
variable{X:Cx}{pins:List (Addr×Obj)}{σ:St}{H:Hp}{s:Shared}{a:Addr}{y v:V}{u r:Value}{o:Option V}{A:Around}{E:Value→Shared→Prop}
theorem Inv.big(I:Inv X pins σ H s):sysModules<s.heap.objs.size:=by
 have h:mainGlobals<s.heap.objs.size:=(I.mod.glob.keeps I.bk).lt;exact Nat.lt_trans (Zv) h
theorem Bf{Q:Value→Shared→Prop}(hu:A.units+1<cLine)(I:Inv X pins σ H s)(g:jG H a y (some v))(ry:RelV y u)(h:∀w' s',Inv X pins σ H s'→RelV v w'→Q w' s'):
  wpAny (model X.prog X.w) A (getItem (.ref a) u) Q E s:=by
 rcases g with⟨kvs,k,e,ey,l⟩|⟨kvs,k,b,e,ey,eb,l⟩
 ·subst ey;obtain⟨z,hd,vs,rel,dd⟩:=rN I.bH e;obtain⟨w',hw,i7⟩:=jX.some_of (v:=v) (o:=valueAt vs k) (by rw[l];exact rel.val k);exact wpAny_getItem_of (uG ry) dd.mapOf hw (h w' _ (I.tok _) i7)
 ·subst ey;cases(show u=Value.ref b from ry);obtain⟨z,hd,xs,rel,dd⟩:=rO I.bH e;obtain⟨w',hw,i7⟩:=jX.some_of (v:=v) (o:=(atKey xs k).map (·.2)) (by rw[l];exact rel.val k);obtain⟨p,hp,Fg⟩:=Option.map_eq_some_iff.mp hw;refine wpAny_getItem_heap (tupleKind_room_in1 hu) (mR I.bH eb) dd hp ?_;rw[Fg];exact h w' _ (I.tok _) i7
theorem Qw{Q:Value→Shared→Prop}(hu:A.units+1<cLine)(I:Inv X pins σ H s)(g:jG H a y o)(ry:RelV y u)(h:∀s',Inv X pins σ H s'→Q (.bool o.isSome) s'):
  wpAny (model X.prog X.w) A (compareOp .In u (.ref a)) Q E s:=by
 rcases g with⟨kvs,k,e,ey,l⟩|⟨kvs,k,b,e,ey,eb,l⟩
 ·subst ey;obtain⟨z,hd,vs,rel,dd⟩:=rN I.bH e;refine wpAny_in_of (uG ry) hd dd.mapOf ?_;rw[←(rel.val k).jF,←l];exact h _ (I.tok _)
 ·subst ey;cases(show u=Value.ref b from ry);obtain⟨z,hd,xs,rel,dd⟩:=rO I.bH e;refine wpAny_in_heap (tupleKind_room_in1 hu) (mR I.bH eb) hd dd ?_;have q:=(rel.val k).jF;rw[Option.isSome_map]at q;rw[←q,←l];exact h _ (I.tok _)
theorem FV{Q:Value→Shared→Prop}(hu:A.units+1<cLine)(I:Inv X pins σ H s)(g:jG H a y o)(ry:RelV y u)(h:∀s',Inv X pins σ H s'→Q (.bool (!o.isSome)) s'):
  wpAny (model X.prog X.w) A (compareOp .NotIn u (.ref a)) Q E s:=by
 rcases g with⟨kvs,k,e,ey,l⟩|⟨kvs,k,b,e,ey,eb,l⟩
 ·subst ey;obtain⟨z,hd,vs,rel,dd⟩:=rN I.bH e;refine wpAny_notIn_of (uG ry) hd dd.mapOf ?_;rw[←(rel.val k).jF,←l];exact h _ (I.tok _)
 ·subst ey;cases(show u=Value.ref b from ry);obtain⟨z,hd,xs,rel,dd⟩:=rO I.bH e;refine wpAny_notIn_heap (tupleKind_room_in1 hu) (mR I.bH eb) hd dd ?_;have q:=(rel.val k).jF;rw[Option.isSome_map]at q;rw[←q,←l];exact h _ (I.tok _)
theorem vi{h':Heap}{t':Nat}{ob:HO}(I:Inv X pins σ H s)(mu:LZ (H a))(hs:Heap.SameBut a s.heap h')(he:∃q,h'.get? a=some q)(new:cB X.prog X.w (upd H a ob) h' a ob):
  Inv X pins σ (upd H a ob) {s with heap:=h',toks:=t'}:=
 I.write (x:=a) (e:=a) mu (.inl rfl) (fun b q hb z=>(hs.2 b hb).trans z) he new
theorem Jt{P:Program}{w:World}{H':Hp}{h':Heap}{kvs:List (Key×V)}{vs:List (Key×Value)}(z:kvs.length≤sizeLine)(hd:(a==sysModules)=false)(rel:KV kvs vs)(dd:h'.DictOf (cQ P w) a vs):
  cB P w H' h' a (.dK kvs):=⟨z,hd,vs,rel,dd⟩
theorem Bg{H':Hp}{Q:Unit→Shared→Prop}(hu:A.units+1<cLine)(I:Inv X pins σ H s)(g:FU H a y v H')(ry:RelV y u)(rv:RelV v r)(h:∀s',Inv X pins σ H' s'→Q () s'):
  wpAny (model X.prog X.w) A (setItem (.ref a) u r) Q E s:=by
 rcases g with⟨kvs,k,e,ey,l,eH⟩|⟨kvs,k,b,e,ey,eb,l,eH⟩
 ·subst ey eH;obtain⟨z,hd,vs,rel,dd⟩:=Mt I.bH e;have hz:vs.length≤sizeLine:=by rw[←rel.length];exact z
  have hl:(putK kvs k v).length≤sizeLine:=by have:=fG kvs k v;omega
  refine wpAny_setItem_pairs (hsz:=hz) (uG ry) dd fun h' HJ hs=>h _ ?_
  have he:∃q,h'.get? a=some q:=let ⟨q,_,_,hq,_⟩:=HJ;⟨q,hq⟩
  exact vi I (by rw[e];exact True.intro) hs he (Jt hl hd (rel.put k rv) HJ)
 ·subst ey eH;cases(show u=Value.ref b from ry);obtain⟨z,hd,xs,rel,dd⟩:=HI I.bH e;have hz:xs.length≤sizeLine:=by rw[←Paired.length rel];exact z
  have hl:(putK kvs k v).length≤sizeLine:=by have:=fG kvs k v;omega
  refine wpAny_setItem_heap (hsz:=hz) (tupleKind_room_in1 hu) (mR I.bH eb) dd fun h' HJ hs=>h _ ?_
  obtain⟨q,es,ep,hq,h2,h3,h4,_,h5⟩:=HJ;refine vi I (by rw[e];exact True.intro) hs ⟨q,hq⟩ ⟨hl,hd,_,(rel.put k eb rv).keeps fun c ys ec=>?_,q,es,ep,hq,h2,h3,h4,h5⟩;rw[ai (iI ec e (fun z=>nomatch z))];exact ec
end
section
variable{X:Cx}{pins:List (Addr×Obj)}{σ:St}{H:Hp}{s:Shared}{a:Addr}{kvs:List (Key×V)}{k:Key}{u:Value}{A:Around}{E:Value→Shared→Prop}
end
def Mu(i:Expr):Prop:=∀ov iv,subscripted i false ov iv=operate [ov,iv] (getItem ov iv)
theorem FW{prog:Program}{w:World}{A:Around}{E:Value→Shared→Prop}{s:Shared}{env:Env}{value slice:Expr}{pos:Pos}{T id:String}{Q:Value→Shared→Prop}
  (hl:typeLookup (.type T) "__getitem__"=pure (some (.builtin id))) (hs:Mu slice)
  (h:wpAny (model prog w) A (eval value env) (fun o bW=>wpAny (model prog w) A (eval slice env) (fun i pA=>pA.TypeIs o T∧wpAny (model prog w) A (getItem o i) Q E pA) E bW) E s):
  wpAny (model prog w) A (eval (.Subscript value slice pos) env) Q E s:=by
 refine Subscript_ (wpAny_mono h (fun o bW Bh=>wpAny_mono Bh (fun i pA CM=>?_) fun _ _ x=>x) fun _ _ x=>x);obtain⟨hT,CM⟩:=CM;unfold subscriptTail;refine wpAny_bind ?_;rw[getitemInPython_of_ne hT.not_modules];refine wpAny_bind (wpAny_specialOf hT hl ?_);have fin:wpAny (model prog w) A (subscripted slice false o i) (fun r Bi=>wpAny (model prog w) A (letTemporaryGo value o r>>=fun _=>pure r) Q E Bi) E pA:=by
  rw[hs o i];exact wpAny_operating (wpAny_mono CM (fun r Bi FX=>wpAny_bind (wpAny_letTemporaryGo (wpAny_pure FX))) fun _ _ x=>x)
 first
  |exact wpAny_pure (wpAny_bind fin)
  |exact wpAny_bind (wpAny_pure (wpAny_bind fin))
  |exact wpAny_bind fin
theorem xk{X:Cx}{pins:List (Addr×Obj)}{σ:St}{H:Hp}{s:Shared}{a:Addr}{y:V}{o:Option V}(I:Inv X pins σ H s)(g:jG H a y o):s.TypeIs (.ref a) "dict":=by
 rcases g with⟨kvs,k,e,_,_⟩|⟨kvs,k,b,e,_,_,_⟩
 ·obtain⟨_,_,vs,_,dd⟩:=rN I.bH e;exact dd.typeIs
 ·obtain⟨_,_,xs,_,dd⟩:=rO I.bH e;exact dd.typeIs
def Mv(td ty:TE):TE:=fun σ H Q=>td σ H fun x H1=>ty σ H1 fun y H2=>∃a v,x= .ref a∧jG H2 a y (some v)∧Q v H2
def Qx(ty td:TE):TE:=fun σ H Q=>ty σ H fun y H1=>td σ H1 fun x H2=>∃a o,x= .ref a∧jG H2 a y o∧Q (.bl o.isSome) H2
def FY(ty td:TE):TE:=fun σ H Q=>ty σ H fun y H1=>td σ H1 fun x H2=>∃a o,x= .ref a∧jG H2 a y o∧Q (.bl (!o.isSome)) H2
def Mw(td ty tv:TE):TS:=fun D σ H=>tv σ H fun v H1=>td σ H1 fun x H2=>ty σ H2 fun y H3=>∃a H4,x= .ref a∧FU H3 a y v H4∧D.nx σ H4
section
variable{X:Cx}{o i e value:Expr}{pos pos' Qt:Pos}{td ty tv:TE}
theorem iu(hu:X.A.units+1<cLine)(ho:PE X o td)(hi:PE X i ty)(hs:Mu i):PE X (.Subscript o i pos) (Mv td ty):=by
 intro pins s σ H Q I h;refine FW PySem.F.slot_dict_getitem.lookup hs (cz (ho pins s σ H _ I h) fun u s1 ⟨x,H1,I1,rx,q1⟩=>cz (hi pins s1 σ H1 _ I1 q1) fun iv s2 ⟨y,H2,I2,ry,a,v,ex,g,q2⟩=>?_);subst ex;obtain rfl:u=Value.ref a:=rx;exact⟨xk I2 g,Bf hu I2 g ry fun w' s3 I3 i7=>⟨v,H2,I3,i7,q2⟩⟩
theorem rP(hu:X.A.units+1<cLine)(hi:PE X i ty)(ho:PE X o td):PC X .In i o (Qx ty td):=by
 intro pins s σ H Q I h;refine cz (hi pins s σ H _ I h) fun iv s1 ⟨y,H1,I1,ry,q1⟩=>cz (ho pins s1 σ H1 _ I1 q1) fun u s2 ⟨x,H2,I2,rx,a,ov,ex,g,q2⟩=>?_
 subst ex;obtain rfl:u=Value.ref a:=rx;exact Qw hu I2 g ry fun s3 I3=>⟨.bl ov.isSome,H2,I3,rfl,q2⟩
theorem Bj(hu:X.A.units+1<cLine)(hi:PE X i ty)(ho:PE X o td):PC X .NotIn i o (FY ty td):=by
 intro pins s σ H Q I h;refine cz (hi pins s σ H _ I h) fun iv s1 ⟨y,H1,I1,ry,q1⟩=>cz (ho pins s1 σ H1 _ I1 q1) fun u s2 ⟨x,H2,I2,rx,a,ov,ex,g,q2⟩=>?_
 subst ex;obtain rfl:u=Value.ref a:=rx;exact FV hu I2 g ry fun s3 I3=>⟨.bl (!ov.isSome),H2,I3,rfl,q2⟩
theorem lN(hu:X.A.units+1<cLine)(ho:PE X o td)(hi:PE X i ty)(hv:PE X value tv)(hs:swapsWith value (some (.Subscript o i pos')) pos.line X.env=pure false):
  PS X (.Assign [.Subscript o i pos'] value pos) (Mw td ty tv):=by
 intro pins s σ H D I h;refine wpAny_Assign_Subscript (cz (hv pins s σ H _ I h) fun r s1 ⟨v,H1,I1,rv,q1⟩=>cz (ho pins s1 σ H1 _ I1 q1) fun u s2 ⟨x,H2,I2,rx,q2⟩=>cz (hi pins s2 σ H2 _ I2 q2) fun iv s3 ⟨y,H3,I3,ry,a,H4,ex,g,q3⟩=>?_) hs;subst ex;obtain rfl:u=Value.ref a:=rx;exact Bg hu I3 g ry rv fun s4 I4=>⟨σ,H4,I4,q3⟩
end
theorem CO{P:Program}{w:World}{H:Hp}(h:Heap)(hb:sysModules<h.objs.size):cB P w H (h.push {cls:= .type "dict",data:= .dict #[]}) h.objs.size (.dT []):=
 ⟨Nat.zero_le _,beq_eq_false_iff_ne.mpr (Ne.symm (Nat.ne_of_lt hb)),[], .nil,_,#[],0,Heap.get?_push_size _ rfl,⟨rfl,rfl,rfl⟩,rfl,rfl,List.nodup_nil⟩
def Ju:TE:=fun _ H Q=>∀p,H p=none→Q (.ref p) (upd H p (.dT []))
section
variable{X:Cx}{pos:Pos}
theorem kT:PE X (.Dict [] [] pos) Ju:=fun pins s σ H Q I h=>
 wpAny_Dict_empty ⟨.ref s.heap.objs.size,_,I.laid (a:=s.heap.objs.size) (o:= .dT []) (t':=s.toks) (fun _ _ q=>Zj q) (Nat.le_refl _) (CO s.heap I.big),rfl,h _ (I.bH.fresh (Nat.le_refl _))⟩
end
structure M1(X:Cx)(o:Expr)(m:Str)(apos:Pos)(e:Expr)(dW:Pos):Prop where
 base:attributeBase o m X.env (eval o X.env)=eval o X.env
 Bk:((backTo dW (starEach [e] X.env)).all (fun x=>!x.1)&&(backToKw dW (keywordEach [] X.env)).all (fun x=>x.1.isSome)
  &&decide (([e]:List Expr).length+([]:List Keyword).length+(if ([]:List Keyword).isEmpty then 0 else 1)<30))=true
 line:(apos.endLine==dW.line)=true
 trees:backTo dW (starEach [e] X.env)=[(false,eval e X.env)]
def Qy(H:Hp)(a:Addr):Prop:=(∃kvs,Rd H a (.dK kvs))∨∃kvs,Rd H a (.dT kvs)
theorem CP{X:Cx}{pins:List (Addr×Obj)}{σ:St}{H:Hp}{s:Shared}{a:Addr}(I:Inv X pins σ H s)(d:Qy H a):
  s.TypeIs (.ref a) "dict"∧(∀b,Value.ref a= .ref b→∃ob,s.heap.get? b=some ob∧ob.dict=none)∧(a==sysModules)=false:=by
 rcases d with⟨kvs,e⟩|⟨kvs,e⟩
 ·obtain⟨_,hd,vs,_,dd⟩:=rN I.bH e;refine⟨dd.typeIs,fun b q=>?_,hd⟩;cases q;obtain⟨ob,_,_,h1,h2,_⟩:=dd;exact⟨ob,h1,h2.2.1⟩
 ·obtain⟨_,hd,xs,_,dd⟩:=rO I.bH e;refine⟨dd.typeIs,fun b q=>?_,hd⟩;cases q;obtain⟨ob,_,_,h1,h2,_⟩:=dd;exact⟨ob,h1,h2.2.1⟩
section
variable{X:Cx}{pins:List (Addr×Obj)}{σ:St}{H:Hp}{s:Shared}{a:Addr}{y d:V}{u r:Value}{o:Option V}{A:Around}{E:Value→Shared→Prop}
theorem Jv{Q:Value→Shared→Prop}(hu:A.units+1<cLine)(I:Inv X pins σ H s)(g:jG H a y o)(ry:RelV y u)(h:∀w' s',Inv X pins σ H s'→RelV (o.getD .cn) w'→Q w' s'):
  wpAny (model X.prog X.w) A (call (.builtin "dict.get") [.ref a,u]) Q E s:=by
 rcases g with⟨kvs,k,e,ey,l⟩|⟨kvs,k,b,e,ey,eb,l⟩
 ·subst ey;obtain⟨z,hd,vs,rel,dd⟩:=rN I.bH e;refine call_meetsIn PySem.F.slot_dict_get dd.typeIs PySem.F.entry_dict_get (PySem.F.args_dict_get_2 _ _) (meets_dict_get (cQ X.prog X.w) a (uG ry) hd) ⟨_,dd.mapOf,h _ _ (I.tok _) ?_⟩;rw[l];exact(rel.val k).getD rfl
 ·subst ey;cases(show u=Value.ref b from ry);obtain⟨z,hd,xs,rel,dd⟩:=rO I.bH e;refine call_meetsIn PySem.F.slot_dict_get dd.typeIs PySem.F.entry_dict_get (PySem.F.args_dict_get_2 _ _) (meetsH_dict_get (tupleKind (cQ X.prog X.w)) a b hd) ⟨tupleKind_room_in1 hu,k,xs,mR I.bH eb,dd,h _ _ (I.tok _) ?_⟩;rw[l];exact(rel.val k).getD rfl
end
def Jw(td ty:TE):TE:=fun σ H Q=>td σ H fun x H1=>∃a,x= .ref a∧Qy H1 a∧ty σ H1 fun y H2=>∃o,jG H2 a y o∧Q (o.getD .cn) H2
section
variable{X:Cx}{o e f:Expr}{apos dW:Pos}{td ty tx:TE}
theorem CQ(hu:X.A.units+1<cLine)(ho:PE X o td)(he:PE X e ty)(m:M1 X o "get" apos e dW):PE X (.Call (.Attribute o "get" apos) [e] [] dW) (Jw td ty):=by
 intro pins s σ H Q I h;refine wpAny_Call_method m.base m.Bk m.line PySem.F.plainAttrs_dict PySem.F.slot_dict_get PySem.F.type_dict_get (cz (ho pins s σ H _ I h) fun u s1 ⟨x,H1,I1,rx,a,ex,d,q1⟩=>?_);subst ex;obtain rfl:u=Value.ref a:=rx;obtain⟨t1,t2,_⟩:=CP I1 d;refine⟨t1,t2,?_⟩;rw[m.trees];refine Calls.callWith_builtin rfl (Calls.evalArgs_plain (Calls.spliced_cons (cz (he pins s1 σ H1 _ I1 q1) fun iv s2 ⟨y,H2,I2,ry,ov,g,q2⟩=>Calls.spliced_nil ?_)));exact Jv hu I2 g ry fun w' s3 I3 i7=>⟨_,H2,I3,i7,q2⟩
end
section
variable{X:Cx}{pins:List (Addr×Obj)}{σ:St}{H:Hp}{s:Shared}{a:Addr}{kvs:List (Key×V)}{A:Around}{E:Value→Shared→Prop}
end
section
variable{X:Cx}{pins:List (Addr×Obj)}{σ:St}{H:Hp}{s:Shared}{a:Addr}{y:V}{u:Value}{A:Around}{E:Value→Shared→Prop}
end
end L2
namespace HT
open PySem PyProof.Rows
section
open PySem.SeqAt
open PySem.AutoSeq1 (wpAny_loadPart')
open PySem.MeetsSeq PySem.MeetsSeq2 PySem.MeetsSeq3
end
section
variable{prog:Program}{w:World}{A:Around}{E:Value→Shared→Prop}{s:Shared}
def uI(n d:Nat):Option Int→Nat
 |none=>d
 |some v=>if v<0 then(v+(n:Int)).toNat else min v.toNat n
theorem CS(n d:Nat):uI n d none=d:=rfl
theorem CU(n d:Nat)(hd:d≤n)(o:Option Int):uI n d o≤n:=by
 cases o with
 |none=>exact hd
 |some v=>
  show(if v<0 then(v+(n:Int)).toNat else min v.toNat n)≤n;by_cases hv:v<0
  ·rw[Zi hv];omega
  ·rw[Ze hv];exact Nat.min_le_right _ _
end
end HT
namespace L2
open PySem PySem.Spec PyProof.Rows
abbrev TO:=St→Hp→(Option Int→Hp→Prop)→Prop
def PO(X:Cx)(e:Option Expr)(t:TO):Prop:=
 ∀(pins:List (Addr×Obj))(s:Shared)(σ:St)(H:Hp)(Q:Option Int→Hp→Prop),Inv X pins σ H s→t σ H Q→
  wpAny (model X.prog X.w) X.A (evalPart e X.env) (fun u s'=>∃o H',Inv X pins σ H' s'∧IsPart u o∧Q o H') X.xe s
def FZ:TO:=fun _ H Q=>Q none H
def Mx(t:TE):TO:=fun σ H Q=>t σ H fun x H1=>∃i,x= .int i∧Q (some i) H1
section
variable{X:Cx}{e:Expr}{te:TE}{lo hi:Option Expr}{tl th:TO}{pos p2:Pos}
theorem ZQ:PO X none FZ:=by
 intro pins s σ H Q I h;rw[evalPart_none];exact wpAny_pure ⟨none,H,I, .none,h⟩
theorem rj(h:PE X e te):PO X (some e) (Mx te):=by
 intro pins s σ H Q I hw;rw[evalPart_some];refine cz (h pins s σ H _ I hw) fun u s1 ⟨x,H1,I1,r1,q1⟩=>?_
 obtain⟨i,rfl,q⟩:=q1;obtain⟨t,rfl⟩:=r1;exact⟨some i,H1,I1, .int i t,q⟩
def Tf(X:Cx)(r:V→Option Int→Option Int→Hp→VK→Prop):Prop:=
 ∀(pins:List (Addr×Obj))(s:Shared)(σ:St)(H:Hp)(x:V)(v vl vu:Value)(lo hi:Option Int)(sl:Addr)(Q:VK),Inv X pins σ H s→RelV x v→s.heap.IsSliceOf sl vl vu .none→IsPart vl lo→IsPart vu hi→r x lo hi H Q→
  ∃T id,typeLookup (.type T) "__getitem__"=pure (some (.builtin id))∧s.TypeIs v T∧wpAny (model X.prog X.w) X.A (getItem v (.ref sl)) (EP X pins σ Q) X.xe s
def VG(r:V→Option Int→Option Int→Hp→VK→Prop)(te:TE)(tl th:TO):TE:=fun σ H Q=>te σ H fun x H1=>tl σ H1 fun l H2=>th σ H2 fun u H3=>r x l u H3 Q
theorem rQ{r:V→Option Int→Option Int→Hp→VK→Prop}(hr:Tf X r)(he:PE X e te)(hl:PO X lo tl)(hu:PO X hi th):PE X (.Subscript e (.Slice lo hi none p2) pos) (VG r te tl th):=by
 intro pins s σ H Q I h;refine Subscript_ (cz (he pins s σ H _ I h) fun v s1 ⟨x,H1,I1,r1,q1⟩=>?_);refine wpAny_Slice (cz (hl pins s1 σ H1 _ I1 q1) fun vl s2 ⟨l,H2,I2,pl,q2⟩=>cz (hu pins s2 σ H2 _ I2 q2) fun vu s3 ⟨u,H3,I3,pu,q3⟩=>?_);rw[evalPart_none];refine wpAny_pure ?_;have I4:Inv X pins σ H3 {s3 with heap:=s3.heap.push {cls:= .type "slice",data:= .fields #[vl,vu, .none]}}:=I3.kept (t':=s3.toks) fun b ob q=>Zj q
 obtain⟨T,id,hT,ht,hg⟩:=hr pins {s3 with heap:=s3.heap.push {cls:= .type "slice",data:= .fields #[vl,vu, .none]}} σ H3 x v vl vu l u s3.heap.objs.size Q I4 r1 (Heap.IsSliceOf.new ..) pl pu q3;show wpAny (model X.prog X.w) X.A (subscriptTail e (.Slice lo hi none p2) v (.ref s3.heap.objs.size)) (EP X pins σ Q) X.xe {s3 with heap:=s3.heap.push {cls:= .type "slice",data:= .fields #[vl,vu, .none]}};exact tail_any (ops:=[.ref s3.heap.objs.size,v]) ht hT hg (by with_unfolding_all rfl)
end
def CV(n:Nat)(i:Int):Option Nat:=if 0≤i then(if i<n then some i.toNat else none)else if-(n:Int)≤i then some (i+n).toNat else none
def tN{α:Type}(xs:List α)(i:Int):Option α:=(CV xs.length i).bind fun j=>xs[j]?
theorem ZP{n:Nat}{i:Int}{j:Nat}(h:CV n i=some j):seqIndex? i n=some j∧j<n∧-(n:Int)≤i∧i<n:=by
 unfold CV at h;by_cases h0:0≤i
 ·rw[Zi h0]at h;by_cases h1:i<n
  ·rw[Zi h1]at h;have e:i.toNat=j:=Zp h;exact⟨by rw[seqIndex_of h0 h1,e],Zu,Zu,h1⟩
  ·rw[Ze h1]at h;cases h
 ·rw[Ze h0]at h;by_cases h1:-(n:Int)≤i
  ·rw[Zi h1]at h;have e:(i+n).toNat=j:=Zp h;exact⟨by rw[seqIndex_neg (Zu) h1,e],Zu,h1,Zu⟩
  ·rw[Ze h1]at h;cases h
theorem vj{α:Type}{xs:List α}{i:Int}{v:α}(h:tN xs i=some v):∃j,seqIndex? i xs.length=some j∧xs[j]?=some v∧j<xs.length∧-(xs.length:Int)≤i∧i<xs.length:=by
 unfold tN at h;cases e:CV xs.length i with
 |none=>rw[e]at h;cases h
 |some j=>
  rw[e]at h;obtain⟨h1,h2,h3,h4⟩:=ZP e;exact⟨j,h1,h,h2,h3,h4⟩
theorem aF{α:Type}{xs:List α}{j:Nat}{v:α}(h:xs[j]?=some v):tN xs (j:Int)=some v:=by
 have hj:j<xs.length:=(Y' h).1;have e:CV xs.length (j:Int)=some j:=by
  unfold CV;rw[if_pos (Zu),if_pos (Zu)];simp
 unfold tN;rw[e];exact h
theorem xl{α:Type}(xs:List α)(v:α):tN (xs++[v]) (-1)=some v:=by
 have hl:(xs++[v]).length=xs.length+1:=Zx;have e:CV (xs++[v]).length (-1)=some xs.length:=by
  unfold CV;rw[hl,if_neg (Zv),if_pos (Zu)]
  congr 1
  omega
 unfold tN;rw[e];show(xs++[v])[xs.length]?=some v;simp
def F0(b:Expr):Prop:=∀o i,subscripted b false o i=operate [o,i] (getItem o i)
def Lm(X:Cx)(r:R2):Prop:=
 ∀(value slice:Expr)(pins:List (Addr×Obj))(s:Shared)(σ:St)(H:Hp)(x y:V)(v u:Value)(Q:VK),Inv X pins σ H s→RelV x v→RelV y u→r x y H Q→
  subscripted slice false v u=operate [v,u] (getItem v u)→wpAny (model X.prog X.w) X.A (subscriptTail value slice v u) (EP X pins σ Q) X.xe s
def OH(X:Cx)(id:String)(r:V→List V→Hp→VK→Prop):Prop:=
 ∀(pins:List (Addr×Obj))(s:Shared)(σ:St)(H:Hp)(x:V)(xs:List V)(v:Value)(us:List Value)(Q:VK),Inv X pins σ H s→RelV x v→Vals xs us→r x xs H Q→
  wpAny (model X.prog X.w) X.A (call (.builtin id) (v::us)) (EP X pins σ Q) X.xe s
section
variable{X:Cx}{a b:Expr}{ta tb:TE}{pos:Pos}
theorem aS{r:R2}(hr:Lm X r)(ha:PE X a ta)(hb:PE X b tb)(hs:F0 b):PE X (.Subscript a b pos) (OG r ta tb):=by
 intro pins s σ H Q I h;exact Subscript_ (Jm ha hb I h fun v u s2 x y H2 I2 rx ry q=>hr a b pins s2 σ H2 x y v u Q I2 rx ry q (hs _ _))
inductive Jx(K:PySem.W.Frag)(x:V)(y:V)(H:Hp)(Q:VK):Prop
 |mk (p:_) (xs:_) (i:_) (v:_) (_:x= .ref p) (_:y= .int i) (_:jC K H p xs) (_:tN xs i=some v) (_:Q v H):Jx K x y H Q
inductive Jy(K:PySem.W.Frag)(x:V)(y:V)(H:Hp)(Q:VK):Prop
 |mk (p:_) (xs:_) (i:_) (v:_) (_:x= .ref p) (_:y= .int i) (_:Cw K H p xs) (_:tN xs i=some v) (_:Q v H):Jy K x y H Q
inductive My(x:V)(y:V)(H:Hp)(Q:VK):Prop
 |mk (z:_) (i:_) (c:_) (_:x= .str z) (_:y= .int i) (_:z.length≤sizeLine) (_:tN z.cps.toList i=some c) (_:Q (.str ⟨#[c]⟩) H):My x y H Q
theorem F1:Lm X (Jx X.K):=by
 intro value slice pins s σ H x y v u Q I rx ry h hs;obtain⟨p,xs,i,z,rfl,rfl,hq,he,q⟩:=h;cases rx;obtain⟨t,rfl⟩:=ry;obtain⟨its,r,pl,hz⟩:=I.list hq;obtain⟨j,h1,h2,h3,h4,h5⟩:=vj he;obtain⟨w,ew,i7⟩:=r.get h2;have hl:=r.length;have hn:=mO;have fin:EP X pins σ Q w s:=⟨z,H,I,i7,q⟩
 by_cases h0:0≤i
 ·have hj:i.toNat=j:=by
   rw[seqIndex_of h0 h5]at h1;exact Zp h1
  exact item_listR pl.isList h0 (Zu) (by rw[hj];simpa using ew) fin hs
 ·have hj:(i+(its.toArray.size:Int)).toNat=j:=by
   rw[seqIndex_neg (Zu) h4]at h1;rw[List.size_toArray,←hl];exact Zp h1
  exact subscriptTail_builtinR (x:=w) pl.isList.typeIs slot_list_getitem.lookup
   (wpAny_getItem_list_neg (Q:=fun r s'=>r=w∧EP X pins σ Q r s') pl.isList (Zu) (by rw[List.size_toArray]<;>omega) (Zu) (by rw[hj];simpa using ew) ⟨rfl,fin⟩) hs
theorem Jz:Lm X (Jy X.K):=by
 intro value slice pins s σ H x y v u Q I rx ry h hs;obtain⟨p,xs,i,z,rfl,rfl,hq,he,q⟩:=h;cases rx;obtain⟨t,rfl⟩:=ry;obtain⟨its,r,pl,hz⟩:=I.tuple hq;obtain⟨j,h1,h2,h3,h4,h5⟩:=vj he;obtain⟨w,ew,i7⟩:=r.get h2;have hl:=r.length;have hn:=mO;have fin:EP X pins σ Q w s:=⟨z,H,I,i7,q⟩
 exact subscriptTail_builtinR (x:=w) pl.typeIs slot_tuple_getitem.lookup
  (getItem_tuple (j:=j) (Q:=fun r s'=>r=w∧EP X pins σ Q r s') pl (Zu) (Zu) (by rw[List.size_toArray,←hl];exact h1) (by simpa using ew) ⟨rfl,fin⟩) hs
theorem CW:Lm X My:=by
 intro value slice pins s σ H x y v u Q I rx ry h hs;obtain⟨z,i,c,rfl,rfl,hz,he,q⟩:=h;obtain⟨t,rfl⟩:=rx;obtain⟨t',rfl⟩:=ry;obtain⟨j,h1,h2,h3,h4,h5⟩:=vj he;have hl:z.cps.toList.length=z.length:=by simp[Str.length]
 rw[hl]at h1 h4 h5;have hn:=mO;exact tail_any (typeIs_str s z t) slot_str_getitem.lookup (getItem_str (c:=c) (by
  have e1:decide (i< -(2^63:Int))=false:=decide_eq_false (Zu);have e2:decide (i≥2^63)=false:=decide_eq_false (Zu);rw[e1,e2,Bool.or_false]) (by rw[h1];simpa using h2) ⟨.str ⟨#[c]⟩,H,I.tok _,⟨_,rfl⟩,q⟩) hs
theorem yJ(its:List Value)(n j:Nat)(u:Value):Obj.mapSeq (·.setIfInBounds j u) {cls:= .type "list",data:= .seq its.toArray n}={cls:= .type "list",data:= .seq (its.set j u).toArray n}:=by
 simp[Obj.mapSeq]
theorem Inv.lst{pins:List (Addr×Obj)}{σ:St}{H:Hp}{s:Shared}{p:Addr}{xs:List V}(I:Inv X pins σ H s)(h:H p=some (.lst xs)):
  ∃(its:List Value)(n:Nat),Vals xs its∧s.heap.get? p=some {cls:= .type "list",data:= .seq its.toArray n}∧xs.length≤sizeLine:=by
 obtain⟨z,its,n,r,e⟩:=I.bH p _ h;exact⟨its,n,r,e,z⟩
theorem Inv.JA{pins:List (Addr×Obj)}{σ:St}{H:Hp}{s:Shared}{p:Addr}{xs ys:List V}{its its':List Value}{n n':Nat}{f:Obj→Obj}(I:Inv X pins σ H s)(h:H p=some (.lst xs))
  (ho:s.heap.get? p=some {cls:= .type "list",data:= .seq its.toArray n}) (hf:f {cls:= .type "list",data:= .seq its.toArray n}={cls:= .type "list",data:= .seq its'.toArray n'}) (r:Vals ys its') (hz:ys.length≤sizeLine) (t:Nat):
  Inv X pins σ (upd H p (.lst ys)) {s with heap:=s.heap.update p f,toks:=t}:=by
 have e:(s.heap.update p f).get? p=some {cls:= .type "list",data:= .seq its'.toArray n'}:=by
  rw[Heap.get?_update_self f ho (by rw[hf]<;>rfl),hf]
 refine I.write (x:=p) (e:=p) (by rw[h];trivial) (.inl rfl) (fun b u hb q=>(Heap.get?_update_other _ _ (Ne.symm hb)).trans q) ⟨_,e⟩ ?_;exact⟨hz,its',n',r,e⟩
inductive HK(o:V)(i:V)(v:V)(H:Hp)(Q:(Hp→Prop)):Prop
 |mk (p:_) (xs:_) (k:_) (j:_) (_:o= .ref p) (_:i= .int k) (_:H p=some (.lst xs)) (_:CV xs.length k=some j) (_:Q (upd H p (.lst (xs.set j v)))):HK o i v H Q
theorem set_list:Mf X HK:=by
 intro pins s σ H o i v ov iv u Q I ro ri rv h;obtain⟨p,xs,k,j,rfl,rfl,hp,hj,q⟩:=h;cases ro;obtain⟨t,rfl⟩:=ri;obtain⟨its,n,r,ho,hz⟩:=I.lst hp;obtain⟨h1,h2,h3,h4⟩:=ZP hj;have hl:=r.length;have hn:=mO;have I':Inv X pins σ (upd H p (.lst (xs.set j v))) {s with heap:=s.heap.update p (Obj.mapSeq (·.setIfInBounds j u))}:=
  I.JA hp ho (yJ its n j u) (r.set rv j) (by rw[List.length_set];exact hz) s.toks
 by_cases h0:0≤k
 ·have hk:k.toNat=j:=by
   rw[seqIndex_of h0 h4]at h1;exact Zp h1
  exact PySem.W.ki_setAt ho h0 (Zu) (by rw[List.size_toArray,←hl];exact h4) (by rw[hk];exact⟨_,I',q⟩)
 ·have hk:(k+(its.toArray.size:Int)).toNat=j:=by
   rw[seqIndex_neg (Zu) h3]at h1;rw[List.size_toArray,←hl];exact Zp h1
  exact PySem.W.ki_setBack ho (Zu) (by rw[List.size_toArray,←hl];exact h3) (Zu) (by rw[hk];exact⟨_,I',q⟩)
def gy:V→Bool
 | .cn=>true
 | .bl _=>true
 | .int _=>true
 | .str _=>true
 | _=>false
def kU:V→V→Bool
 | .cn, .cn=>true
 | .bl a, .bl b=>a==b
 | .bl a, .int b=>(if a then 1 else 0)==b
 | .int a, .bl b=>a==(if b then 1 else 0)
 | .int a, .int b=>a==b
 | .str a, .str b=>a==b
 | _,_=>false
theorem rR{A:Around}{s:Shared}{y x:V}{u v:Value}(ry:RelV y u)(rx:RelV x v)(fy:gy y=true)(fx:gy x=true):SeqAt.EqAt A s u v (kU y x):=by
 cases y with
 |cn=>
  cases ry;cases x with
  |cn=>cases rx;exact SeqAt.EqAt.same _
  |bl b=>cases rx;exact SeqAt.EqAt.none_bool b
  |int b=>obtain⟨t,rfl⟩:=rx;exact SeqAt.EqAt.none_int b t
  |str b=>obtain⟨t,rfl⟩:=rx;exact SeqAt.EqAt.none_str b t
  | _=>exact absurd (show false=true from fx) Bool.false_ne_true
 |bl a=>
  cases ry;cases x with
  |cn=>cases rx;exact SeqAt.EqAt.bool_none a
  |bl b=>cases rx;exact SeqAt.EqAt.bool_bool a b
  |int b=>obtain⟨t,rfl⟩:=rx;exact SeqAt.EqAt.bool_int a b t
  |str b=>obtain⟨t,rfl⟩:=rx;exact SeqAt.EqAt.bool_str a b t
  | _=>exact absurd (show false=true from fx) Bool.false_ne_true
 |int a=>
  obtain⟨t',rfl⟩:=ry;cases x with
  |cn=>cases rx;exact SeqAt.EqAt.int_none a t'
  |bl b=>cases rx;exact SeqAt.EqAt.int_bool a t' b
  |int b=>obtain⟨t,rfl⟩:=rx;exact SeqAt.EqAt.int_int a t' b t
  |str b=>obtain⟨t,rfl⟩:=rx;exact SeqAt.EqAt.int_str a t' b t
  | _=>exact absurd (show false=true from fx) Bool.false_ne_true
 |str a=>
  obtain⟨t',rfl⟩:=ry;cases x with
  |cn=>cases rx;exact SeqAt.EqAt.str_none a t'
  |bl b=>cases rx;exact SeqAt.EqAt.str_bool a t' b
  |int b=>obtain⟨t,rfl⟩:=rx;exact SeqAt.EqAt.str_int a t' b t
  |str b=>obtain⟨t,rfl⟩:=rx;exact SeqAt.EqAt.str_str a t' b t
  | _=>exact absurd (show false=true from fx) Bool.false_ne_true
 | _=>exact absurd (show false=true from fy) Bool.false_ne_true
def Ln(x:V)(u:Value):Bool:=match u with
 | .none=>kU .cn x
 | .bool b=>kU (.bl b) x
 | .int i _=>kU (.int i) x
 | .str z _=>kU (.str z) x
 | _=>false
theorem yK{x y:V}{u:Value}(r:RelV y u)(f:gy y=true):Ln x u=kU y x:=by
 cases y with
 |cn=>cases r;rfl
 |bl b=>cases r;rfl
 |int i=>obtain⟨t,rfl⟩:=r;rfl
 |str z=>obtain⟨t,rfl⟩:=r;rfl
 | _=>exact absurd (show false=true from f) Bool.false_ne_true
theorem rS{A:Around}{s:Shared}{x:V}{v:Value}(rx:RelV x v)(fx:gy x=true):∀{xs:List V}{us:List Value},Vals xs us→xs.all gy=true→∀u∈us,SeqAt.EqAt A s u v (Ln x u)
 | _,_, .nil,_=>fun u hu=>by cases hu
 |y::xs,u::us, .cons r t,f=>fun u' hu=>by
  rw[List.all_cons,Bool.and_eq_true]at f;rcases List.mem_cons.mp hu with rfl|hu
  ·rw[yK r f.1];exact rR r rx f.1 fx
  ·exact rS rx fx t f.2 u' hu
theorem vk:gY X (.builtin "len") (fun xs H Q=>∃p ys,xs=[.ref p]∧(jC X.K H p ys∨Cw X.K H p ys)∧Q (.int ys.length) H):=by
 intro pins s σ H xs us Q I r h;obtain⟨p,ys,rfl,hq,q⟩:=h;obtain⟨u,rfl,rx⟩:=vals1 r;cases rx;have hn:=mO;rcases hq with hq|hq
 ·obtain⟨its,r',pl,hz⟩:=I.list hq;have hlen:=r'.length;exact Calls.call_len_list pl.isList (by simp only[List.size_toArray]<;>omega) ⟨.int ys.length,H,I.tok _,⟨s.toks+1,by rw[List.size_toArray,hlen]⟩,q⟩
 ·obtain⟨its,r',pl,hz⟩:=I.tuple hq;have hlen:=r'.length;exact len_tuple pl (by simp only[List.size_toArray]<;>omega) ⟨.int ys.length,H,I.tok _,⟨s.toks+1,by rw[List.size_toArray,hlen]⟩,q⟩
theorem nK:gY X (.builtin "len") (fun xs H Q=>∃z,xs=[.str z]∧z.length≤sizeLine∧Q (.int z.length) H):=by
 intro pins s σ H xs us Q I r h;obtain⟨z,rfl,hz,q⟩:=h;obtain⟨u,rfl,t,rfl⟩:=vals1 r;have hn:=mO;exact len_str (Zu) ⟨.int z.length,H,I.tok _,⟨_,rfl⟩,q⟩
theorem vm:gY X (.type "list") (fun xs H Q=>∃p ys,xs=[.ref p]∧(jC X.K H p ys∨Cw X.K H p ys)∧∀l,H l=none→Q (.ref l) (upd H l (.lst ys))):=by
 intro pins s σ H xs us Q I r h;obtain⟨p,ys,rfl,hq,q⟩:=h;obtain⟨u,rfl,rx⟩:=vals1 r;cases rx;have fin:∀(its:List Value),Vals ys its→ys.length≤sizeLine→∀(h':Heap)(c':Nat),(∀b o',s.heap.get? b=some o'→h'.get? b=some o')→
   h'.get? s.heap.objs.size=some {cls:= .type "list",dict:=none,data:= .seq its.toArray c',slots:=#[]}→EP X pins σ Q (.ref s.heap.objs.size) {s with heap:=h'}:=fun its r' hz h' c' kp e=>
  ⟨.ref s.heap.objs.size,_,I.laid (t':=s.toks) kp (Nat.le_refl _) (show cB X.prog X.w _ h' _ (.lst ys)from⟨hz,its,c',r',e⟩),rfl,q _ (I.bH.fresh (Nat.le_refl _))⟩
 rcases hq with hq|hq
 ·obtain⟨its,r',pl,hz⟩:=I.list hq;have hlen:=r'.length;obtain⟨o,ho,hc,n,hd⟩:=pl.isList;exact call_list_seq p (.inl rfl) ho hc hd (fun h' c' kp e=>fin its r' hz h' c' kp e) (by simp only[List.size_toArray]<;>omega)
 ·obtain⟨its,r',pl,hz⟩:=I.tuple hq;have hlen:=r'.length;obtain⟨o,ho,hc,n,hd⟩:=pl;exact call_list_seq p (.inr rfl) ho hc hd (fun h' c' kp e=>fin its r' hz h' c' kp e) (by simp only[List.size_toArray]<;>omega)
def Qz(K:PySem.W.Frag)(T:String)(x:V)(H:Hp):Prop:=match x with
 | .str _=>T="str"
 | .int _=>T="int"
 | .ref p=>(T="list"∧∃xs,jC K H p xs)∨(T="tuple"∧∃o,K.lookup p=some o∧o.cls= .type "tuple"∧o.dict=none)∨
   (T="dict"∧((∃kvs,H p=some (.dK kvs))∨∃kvs,H p=some (.dT kvs)))∨(T="set"∧∃S n,H p=some (.set S n))
 | _=>False
theorem CY{pins:List (Addr×Obj)}{σ:St}{H:Hp}{s:Shared}{T:String}{x:V}{v:Value}(I:Inv X pins σ H s)(r:RelV x v)(ty:Qz X.K T x H):
  s.TypeIs v T∧∀a,v= .ref a→∃ob,s.heap.get? a=some ob∧ob.dict=none:=by
 cases x with
 |str z=>
  obtain⟨t,rfl⟩:=r;cases(show T="str" from ty);exact⟨typeIs_str s z t,fun _ e=>nomatch e⟩
 |int i=>
  obtain⟨t,rfl⟩:=r;cases(show T="int" from ty);exact⟨typeIs_int s i t,fun _ e=>nomatch e⟩
 |ref p=>
  cases r;rcases ty with⟨rfl,xs,hq⟩|⟨rfl,o,hk,hc,hd⟩|⟨rfl,hk⟩|⟨rfl,S,n,hk⟩
  ·obtain⟨its,_,pl,_⟩:=I.list hq;refine⟨pl.isList.typeIs,fun a e=>?_⟩;cases e;obtain⟨o,n,e,c,hd,_⟩:=pl;exact⟨o,e,hd⟩
  ·refine⟨⟨o,I.nI p o hk,hc⟩,fun a e=>?_⟩;cases e;exact⟨o,I.nI _ o hk,hd⟩
  ·have z:∃o,s.heap.get? p=some o∧o.ExactDict:=by
    rcases hk with⟨kvs,hk⟩|⟨kvs,hk⟩
    ·obtain⟨_,_,_,_,o,_,_,e,ex,_⟩:=I.bH p _ hk;exact⟨o,e,ex⟩
    ·obtain⟨_,_,_,_,o,_,_,e,ex,_⟩:=I.bH p _ hk;exact⟨o,e,ex⟩
   obtain⟨o,e,ex⟩:=z;refine⟨⟨o,e,ex.1⟩,fun a e2=>?_⟩;cases e2;exact⟨o,e,ex.2.1⟩
  ·obtain⟨o,_,_,_,e,ex,_⟩:=I.bH p _ hk;refine⟨⟨o,e,ex.1⟩,fun a e2=>?_⟩;cases e2;exact⟨o,e,ex.2.1⟩
 | _=>exact False.elim ty
def Mz(K:PySem.W.Frag)(T:String)(r:V→List V→Hp→VK→Prop)(to:TE):TE:=fun σ H Q=>to σ H fun x H1=>Qz K T x H1∧r x [] H1 Q
def Tg(K:PySem.W.Frag)(T:String)(r:V→List V→Hp→VK→Prop)(to:TE)(t:TA):TE:=fun σ H Q=>to σ H fun x H1=>Qz K T x H1∧t σ H1 fun xs H2=>r x xs H2 Q
variable{o e:Expr}{es:List Expr}{to:TE}{t:TA}{name:Str}{apos dW:Pos}{T id:String}{r:V→List V→Hp→VK→Prop}
theorem JB(pa:PlainAttrs T)(slot:Slot T name id)(Cd:typeOf (.builtin id)=pure (.type "method_descriptor"))(hm:OH X id r)(ho:PE X o to)
  (nL:attributeBase o name X.env (eval o X.env)=eval o X.env:=by rfl) (mB:(apos.endLine==dW.line)=true:=by rfl):PE X (.Call (.Attribute o name apos) [] [] dW) (Mz X.K T r to):=by
 intro pins s σ H Q I h;refine wpAny_Call_method0_late nL mB (cz (ho pins s σ H _ I h) fun v s1 ⟨x,H1,I1,r1,ty,q1⟩=>?_);obtain⟨h1,h2⟩:=CY I1 r1 ty;exact⟨T,id,pa,slot,Cd,h1,h2,Calls.callWith_builtin rfl (PySem.evalArgs_none (hm pins s1 σ H1 x [] v [] Q I1 r1 .nil q1))⟩
theorem MA(pa:PlainAttrs T)(slot:Slot T name id)(Cd:typeOf (.builtin id)=pure (.type "method_descriptor"))(hm:OH X id r)(ho:PE X o to)(ha:PA X (e::es) t)
  (nL:attributeBase o name X.env (eval o X.env)=eval o X.env:=by rfl)
  (F2:((backTo dW (starEach (e::es) X.env)).all (fun x=>!x.1)&&(backToKw dW (keywordEach [] X.env)).all (fun x=>x.1.isSome)
   &&decide ((e::es).length+([]:List Keyword).length+(if ([]:List Keyword).isEmpty then 0 else 1)<30))=true:=by rfl)
  (mB:(apos.endLine==dW.line)=true:=by rfl) (hs:starEach (e::es) X.env=(false,eval e X.env)::starEach es X.env:=by rfl) (yL:(backTo dW (starEach es X.env)).any (·.1)=false:=by rfl):
  PE X (.Call (.Attribute o name apos) (e::es) [] dW) (Tg X.K T r to t):=by
 intro pins s σ H Q I h;refine wpAny_Call_method_late nL F2 mB rfl (cz (ho pins s σ H _ I h) fun v s1 ⟨x,H1,I1,r1,ty,q1⟩=>?_);obtain⟨h1,h2⟩:=CY I1 r1 ty;refine⟨T,id,pa,slot,Cd,h1,h2,?_⟩;have hA:=ha dW pins s1 σ H1 _ I1 q1;rw[hs]at hA⊢;refine Calls.callWith_builtin (by show(false||(backTo dW (starEach es X.env)).any (·.1))=false;rw[yL]<;>rfl) (Calls.evalArgs_plain ?_);exact cz hA fun us s2 ⟨vs,H2,I2,r2,q2⟩=>hm pins s2 σ H2 x vs v us Q I2 r1 r2 q2
end
def MB(X:Cx)(id:String)(r:V→List V→Hp→VK→Prop):Prop:=
 ∀(pins:List (Addr×Obj))(s:Shared)(σ:St)(H:Hp)(x:V)(xs:List V)(v:Value)(us:List Value)(Q:VK),Inv X pins σ H s→RelV x v→Vals xs us→r x xs H Q→
  wpAny (model X.prog X.w) X.A (call (.builtin id) (v::us)) (EP X pins σ Q) X.xe s
theorem Vals.one:∀{x:V}{us:List Value},Vals [x] us→∃u,us=[u]∧RelV x u
 | _,_, .cons r .nil=>⟨_,rfl,r⟩
theorem Vals.zero:∀{us:List Value},Vals [] us→us=[]
 | _, .nil=>rfl
theorem Vals.reverse{xs:List V}{us:List Value}(h:Vals xs us):Vals xs.reverse us.reverse:=by
 induction h with
 |nil=>exact .nil
 |cons r t ih=>rw[List.reverse_cons,List.reverse_cons];exact Vals.append ih (.cons r .nil)
theorem Vals.rep{xs:List V}{us:List Value}(h:Vals xs us):∀k:Nat,Vals (List.replicate k xs).flatten (List.replicate k us).flatten
 |0=> .nil
 |k+1=>by
  rw[List.replicate_succ,List.replicate_succ,List.flatten_cons,List.flatten_cons];exact Vals.append h (Vals.rep h k)
theorem foldl_rep(its:List Value):∀(k:Nat)(acc:List Value),
  List.foldl (fun x1 x2=>x1++x2) acc.toArray (List.replicate k its.toArray)=(acc++(List.replicate k its).flatten).toArray
 |0,acc=>Zx
 |k+1,acc=>by
  have e:acc.toArray++its.toArray=(acc++its).toArray:=Zx;have e2:(acc++its)++(List.replicate k its).flatten=acc++(List.replicate (k+1) its).flatten:=by
   rw[List.replicate_succ,List.flatten_cons,List.append_assoc]
  rw[←e2,←foldl_rep its k (acc++its),←e,List.replicate_succ,List.foldl_cons]
section
variable{X:Cx}{pins:List (Addr×Obj)}{σ:St}{H:Hp}{s:Shared}{l b:Addr}{xs ys zs:List V}
theorem Inv.JC{its its':List Value}{n:Nat}{f:Array Value→Array Value}{t':Nat}(I:Inv X pins σ H s)(hH:H l=some (.lst xs))
  (e:s.heap.get? l=some {cls:= .type "list",data:= .seq its.toArray n}) (hf:f its.toArray=its'.toArray) (hv:Vals ys its') (hz:ys.length≤sizeLine):
  Inv X pins σ (upd H l (.lst ys)) {s with heap:=s.heap.update l (Obj.mapSeq f),toks:=t'}:=by
 have q:=PySem.IsL.update e f;rw[hf]at q;refine I.write (x:=l) (e:=l) (by rw[hH];exact trivial) (.inl rfl) (fun b' u hb hu=>(Heap.get?_update_other s.heap (Obj.mapSeq f) (Ne.symm hb)).trans hu) ⟨_,q⟩ ?_;exact⟨hz,its',_,hv,q⟩
theorem Inv.MD{its:List Value}{t':Nat}(I:Inv X pins σ H s)(hv:Vals ys its)(hz:ys.length≤sizeLine):
  Inv X pins σ (upd H s.heap.objs.size (.lst ys)) {s with heap:=s.heap.push {cls:= .type "list",data:= .seq its.toArray},toks:=t'}:=
 I.laid (fun _ _ q=>Zj q) (Nat.le_refl _) ⟨hz,its,0,hv,Heap.get?_push_size _ rfl⟩
theorem Inv.fresh(I:Inv X pins σ H s):H s.heap.objs.size=none:=I.bH.fresh (Nat.le_refl _)
theorem Inv.vn(I:Inv X pins σ H s)(hH:H l=some (.lst xs)):xs.length≤sizeLine∧∃(its:List Value)(n:Nat),Vals xs its∧xs.length=its.length∧s.heap.get? l=some {cls:= .type "list",data:= .seq its.toArray n}:=by
 obtain⟨z,its,n,r,e⟩:=I.bH l _ hH;exact⟨z,its,n,r,r.length,e⟩
theorem xm{n:Nat}(h:n≤sizeLine):Builtin.List.listTooLong n=false:=by
 unfold Builtin.List.listTooLong;exact decide_eq_false (Zu)
end
section
variable{X:Cx}
inductive ZT(x:V)(vs:List V)(H:Hp)(Q:VK):Prop
 |mk (l:_) (xs:_) (y:_) (_:x= .ref l) (_:vs=[y]) (_:H l=some (.lst xs)) (_:xs.length<sizeLine) (_:Q .cn (upd H l (.lst (xs++[y])))):ZT x vs H Q
theorem dh:MB X "list.append" ZT:=by
 intro pins s σ H x vs v us Q I rx rv h;obtain⟨l,xs,y,rfl,rfl,hH,hz,q⟩:=h;cases rx;obtain⟨u,rfl,ru⟩:=rv.one;obtain⟨z,its,n,r,hl,e⟩:=I.vn hH;refine call_meets F.slot_list_append ⟨_,e,rfl⟩ F.entry_list_append (F.args_list_append_2 _ _) (PySem.list_append l its.toArray n u (by rw[List.size_toArray];omega)) ⟨e,?_⟩;refine⟨.cn,_,I.JC (its':=its++[u]) hH e Zr (r.append (.cons ru .nil)) ?_,rfl,q⟩;rw[List.length_append,List.length_singleton];omega
def F3:V→List V→Hp→VK→Prop:=fun x vs H Q=>∃l b xs zs,x= .ref l∧vs=[.ref b]∧H l=some (.lst xs)∧H b=some (.lst zs)∧xs.length+zs.length≤sizeLine∧Q .cn (upd H l (.lst (xs++zs)))
theorem uJ:MB X "list.extend" F3:=by
 intro pins s σ H x vs v us Q I rx rv h;obtain⟨l,b,xs,zs,rfl,rfl,hH,hB,hz,q⟩:=h;cases rx;obtain⟨u,rfl,ru⟩:=rv.one;cases ru;obtain⟨z,its,n,r,hl,e⟩:=I.vn hH;obtain⟨z2,eG,n2,r2,Lo,e2⟩:=I.vn hB;have hsz:its.toArray.size+eG.toArray.size≤sizeLine:=by rw[List.size_toArray,List.size_toArray];omega
 have CZ:¬(!its.toArray.isEmpty&&Builtin.List.listTooLong (its.toArray.size+eG.toArray.size))=true:=by
  rw[xm hsz,Bool.and_false];exact Bool.false_ne_true
 refine call_meets F.slot_list_extend ⟨_,e,rfl⟩ F.entry_list_extend (F.args_list_extend_2 _ _)
  (AutoSeq1.list_extend_list_list_0 l its.toArray n b eG.toArray n2 CZ (by rw[List.size_toArray];omega) (Zu)) ⟨e,e2,?_⟩
 refine⟨.cn,_,I.JC (its':=its++eG) hH e Zr (r.append r2) ?_,rfl,q⟩;rw[List.length_append];omega
def C0:V→List V→Hp→VK→Prop:=fun x vs H Q=>∃l xs,x= .ref l∧vs=[]∧H l=some (.lst xs)∧Q .cn (upd H l (.lst xs.reverse))
theorem yM:MB X "list.reverse" C0:=by
 intro pins s σ H x vs v us Q I rx rv h;obtain⟨l,xs,rfl,rfl,hH,q⟩:=h;cases rx;have QA:=rv.zero;subst QA;obtain⟨z,its,n,r,hl,e⟩:=I.vn hH;refine call_meets F.slot_list_reverse ⟨_,e,rfl⟩ F.entry_list_reverse (F.args_list_reverse_1 _) (AutoSeq1.list_reverse_list_0 l its.toArray n (by rw[List.size_toArray];omega)) ⟨e,?_⟩;refine⟨.cn,_,I.JC (its':=its.reverse) hH e Zr r.reverse ?_,rfl,q⟩;rw[List.length_reverse];omega
inductive ME(x:V)(y:V)(H:Hp)(Q:VK):Prop
 |mk (l:_) (b:_) (xs:_) (zs:_) (_:x= .ref l) (_:y= .ref b) (_:H l=some (.lst xs)) (_:H b=some (.lst zs)) (_:xs.length+zs.length≤sizeLine) (_:∀p,H p=none→Q (.ref p) (upd H p (.lst (xs++zs)))):ME x y H Q
theorem pH:rg X (binaryOp .Add) ME:=by
 intro pins s σ H x y v u Q I rx ry h;obtain⟨l,b,xs,zs,rfl,rfl,hH,hB,hz,q⟩:=h;cases rx;cases ry;obtain⟨z,its,n,r,hl,e⟩:=I.vn hH;obtain⟨z2,eG,n2,r2,Lo,e2⟩:=I.vn hB;refine PySem.P.add_list e e2 ?_ (by rw[List.size_toArray,List.size_toArray];omega);have ea:its.toArray++eG.toArray=(its++eG).toArray:=Zx;rw[ea];exact⟨.ref _,_,I.MD (t':=s.toks) (r.append r2) (by rw[List.length_append];omega),rfl,q _ I.fresh⟩
def QB:R2:=fun x y H Q=>∃l k xs,x= .ref l∧y= .int k∧H l=some (.lst xs)∧-(2^63)≤k∧k<2^63∧xs.length*k.toNat≤sizeLine∧
 ∀p,H p=none→Q (.ref p) (upd H p (.lst (List.replicate k.toNat xs).flatten))
theorem len_rep{α:Type}(xs:List α)(k:Nat):(List.replicate k xs).flatten.length=k*xs.length:=by
 induction k with
 |zero=>simp
 |succ k ih=>rw[List.replicate_succ,List.flatten_cons,List.length_append,ih,Nat.succ_mul,Nat.add_comm]
theorem yN:rg X (binaryOp .Mult) QB:=by
 intro pins s σ H x y v u Q I rx ry h;obtain⟨l,k,xs,rfl,rfl,hH,h1,h2,hz,q⟩:=h;cases rx;obtain⟨t,rfl⟩:=ry;obtain⟨z,its,n,r,hl,e⟩:=I.vn hH;have hlen:its.toArray.size*k.toNat≤sizeLine:=by rw[List.size_toArray,←hl];exact hz
 have QC:¬its.toArray.size*k.toNat>(2^63-1)/8:=by
  have:(sizeLine:Nat)≤(2^63-1)/8:=Zv;omega
 have QD:¬(!Builtin.List.listFitsIndex k)=true:=by
  rw[fitsIndex_both h1 h2];exact Bool.false_ne_true
 have CZ:¬Builtin.List.listTooLong (its.toArray.size*k.toNat)=true:=by
  rw[xm hlen];exact Bool.false_ne_true
 have Bl:List.foldl (fun x1 x2=>x1++x2) #[] (List.replicate (if its.toArray.isEmpty=true then 0 else k.toNat) its.toArray)=(List.replicate k.toNat its).flatten.toArray:=by
  have f0:∀m:Nat,List.foldl (fun x1 x2=>x1++x2) #[] (List.replicate m its.toArray)=(List.replicate m its).flatten.toArray:=fun m=>by
   have:=foldl_rep its m [];rw[List.nil_append]at this;exact this
  rw[f0];cases its with
  |nil=>simp
  |cons a r'=>rw[if_neg Zr]
 refine wpAny_binaryOp_repeat_ref (T:="list") (U:="int") (Zv) ⟨_,e,rfl⟩ (fun s'=>typeIs_int s' k t) noFill_list_mul F.fills_int_mul F.slot_int_rmul repeat_list F.slot_int_index.lookup
  (call_meets F.slot_int_rmul (typeIs_int s k t) F.entry_int_rmul (F.args_int_rmul_2 _ _) (int___rmul___int_list k t l its.toArray n)
   ⟨e,rfl,⟨_,e,rfl⟩,call_meets F.slot_list_mul ⟨_,e,rfl⟩ F.entry_list_mul (F.args_list_mul_2 _ _) (AutoListH.list___mul___list_int_3 l its.toArray n k t QD QC CZ) ⟨e,?_⟩⟩)
 rw[Bl];exact⟨.ref _,_,I.MD (t':=s.toks) (r.rep k.toNat) (by rw[len_rep,Nat.mul_comm];exact hz),rfl,q _ I.fresh⟩
end
section
variable{prog:Program}{w:World}{A:Around}{E:Value→Shared→Prop}{s:Shared}
end
section
variable{X:Cx}
end
end L2
namespace Th
open PySem PySem.W PySem.Calls PyProof.Rows
theorem qI{P:Params}{h:Heap}:∀(ns:List Int)(vs:List Value),WellAll P h vs (ns.map WData.int)→IntsAre vs ns:=by
 intro ns
 induction ns with
 |nil=>
  intro vs w;rw[List.map_nil]at w;cases w;exact .nil
 |cons n ns ih=>
  intro vs w;rw[List.map_cons]at w;cases w with
  |cons a b=>
   cases a;exact .cons _ _ (ih _ b)
theorem Bm{l:OpenLaw}{n:Nat}(hn:l.most=some n){P:Params}{h:Heap}{args:List WData}{vals:List Value}
  (F5:l.row.toRowW.claim.pre args=true) (MF:WellAll P h vals args):
  ∃a vs ns,vals=[Value.ref a]∧args=[WData.list (ns.map WData.int)]∧h.get? a=some {cls:= .type "list",data:= .seq vs.toArray}∧IntsAre vs ns∧ns.length≤n:=by
 have MI:WShape.hasAll [] args [.list .int]=true:=(pre_splitW F5).1;have hc:l.pre.holds [] {args:=args}=true:=(pre_splitW F5).2;obtain⟨d,r,rfl,h1,h2⟩:=hasAllW_cons MI;obtain rfl:=hasAllW_nil h2;obtain⟨xs,rfl,h3⟩:=hasW_list h1;obtain⟨ns,rfl⟩:=items_int h3;have hlen:ns.length≤n:=by
  unfold OpenLaw.pre at hc;have h4:(WTm.not (.lt (.lit (.int (n:Int))) (.len (.arg 0)))).holds [] {args:=[.list (ns.map .int)]}=true:=by
   have h4:=(holds_andW hc).1;rw[hn]at h4;exact h4
  have h5:=condW_of h4 (w_not (w_lt w_lit (w_len_list (w_arg rfl))));rw[List.length_map]at h5;refine Nat.le_of_not_lt fun q=>?_
  have q':(n:Int)<((ns.length:Nat):Int):=Zu;first
   |(rw[decide_eq_true q']at h5;exact absurd h5 (Zv))
   |(simp at h5;omega)
 cases MF with
 |cons w1 w2=>
  cases w2;cases w1 with
  |list ho QE=>exact⟨_,_,ns,rfl,rfl,ho,qI ns _ QE,hlen⟩
theorem Bn(l:OpenLaw)(args:List WData):l.row.toRowW.claim.post args (.bool true) args=true:=
 postW_of (r:=l.row.toRowW) (X:=(true==true))
  (show WShape.has [] (.bool true) .bool=true by first|rfl|decide|simp[WShape.has,WShape.arms,WShape.armsAll])
  (show(WTm.eq .res (.lit (.bool true))).value [] {args:=args,res:=some (.bool true),after:=args}=some (.bool (true==true))from w_eq_bool (w_res rfl) w_lit) rfl
theorem xn{l:OpenLaw}{n:Nat}{q:Program}{loose:List Str}{XP:(Str→Option Value)→Heap→Prop}{YP:World→Heap→Prop}{d:DefRec}
  (hn:l.most=some n) (MJ:d.params.defaults=[])
  (call:∀(w:World)(cL bW:Shared)(mg mb:Str→Option Value)(fa:Addr)(o:Obj)(pm cd doc:Value)(a:Addr)(vs:List Value)(ns:List Int),
   Ground q loose [] XP w cL mg mb bW.heap→YP w bW.heap→
   bW.heap.get? fa=some o→o.data= .func (docDef d.name d.params d.body d.scope pm cd doc)→bW.heap.CodeRec cd d.name→mg d.name=some (.ref fa)→
   bW.heap.get? a=some {cls:= .type "list",data:= .seq vs.toArray}→IntsAre vs ns→ns.length≤n→bW.gens=#[]→
   codeAny (model l.prog w) callerA (.call (.ref fa) ⟨[.ref a],[]⟩) (fun r s'=>r= .ok (.ret (.bool true))∧OldK bW.heap s'.heap∧s'.os=bW.os∧AllBare s'.gens) bW):
  WalkO q loose XP YP l.row.toRowW d [] (fun f vs=>PySem.call f vs):=by
 intro w cL bW mg mb G Y fa o pm cd doc dV kV ho hd A5 hD MK hg args vals as F5 VH Yr MF Lp;obtain rfl:dV= .none:=Dflts.none hD MJ;obtain rfl:kV= .none:=Dflts.noKw hD;obtain⟨a,vs,ns,rfl,rfl,JD,hints,hlen⟩:=Bm hn F5 MF;refine enter_call (codeAny_mono (call w cL bW mg mb fa o pm cd doc a vs ns G Y ho (fd_plain hd) A5 MK JD hints hlen hg) fun r s' hq=>?_);obtain⟨rfl,h2,h3,h4⟩:=hq;exact⟨.inl ⟨.bool true, .bool true,[],rfl,fun _=>rfl, .bool true,Bn l _,fun _=>⟨List.Pairwise.nil,fun _ hm=>(nomatch hm)⟩⟩,h2,h3,h4⟩
section
variable{prog:Program}{w:World}{A:Around}{E:Value→Shared→Prop}{s:Shared}{K:Frag}
def ledger(h:Heap)(L d:Addr):List (Addr×Obj):=(List.range h.objs.size).filterMap fun a=>if a=L∨a=d then none else(h.get? a).map fun o=>(a,o)
end
end Th
namespace L2
open PySem PySem.Spec PyProof.Rows
theorem uK:∀{vs:List Value}{ns:List Int},IntsAre vs ns→Vals (ns.map V.int) vs
 | _,_, .nil=> .nil
 | _,_, .cons n t h=> .cons ⟨t,rfl⟩ (uK h)
def JE(H:Hp):Prop:=∀b,H b=none∨∃o xs,H b=some (.q_ o (.lst xs))
theorem C1{cm:Bool}{P:Program}{w:World}{K:PySem.W.Frag}{mg mb:Str→Option Value}{CX:CJ}{k:Nat}{fa a:Addr}{fd:FuncData}{x:Str}{sp:Sp}{bW:Shared}{vs:List Value}{ns:List Int}
  (KX:K.In bW.heap) (OI:bW.heap.Ns mainGlobals mg) (hb:bW.heap.Ns builtinsNs mb) (VI:∀x:Str,x≠"__name__"→mb x=bootBuiltins x) (QG:bW.heap.NoLimit) (hg:bW.gens=#[])
  (ha:bW.heap.get? a=some {cls:= .type "list",data:= .seq vs.toArray}) (hi:IntsAre vs ns) (hl:ns.length≤sizeLine) (hr:cY cm k callerA)
  (F:∀base:Heap,K.In base→base.Ns mainGlobals mg→bf P w K mg base CX cm k fa fd [x] sp) (MN:∀(s:Shared)(u:Value),BindsTo s fd ⟨[u],[]⟩ [(x,u)])
  (Ff:∀H:Hp,JE H→jC K H a (ns.map V.int)→sp [.ref a] H (fun v _=>v= .bl true) fun _ _ _=>False)
  (QH:∀H e s',CX [] H bW (fun _ _ _=>False) e s'→False):
  codeAny (model P w) callerA (.call (.ref fa) ⟨[.ref a],[]⟩) (fun r s'=>r= .ok (.ret (.bool true))∧OldK bW.heap s'.heap∧s'.os=bW.os∧AllBare s'.gens) bW:=by
 have rv:=uK hi;have QI:=hi.length;have core:∀H:Hp,JE H→jC K H a (ns.map V.int)→kF P w H bW.heap→(∀b,H b≠none→b=a)→(H a≠none→K.lookup a=none)→
   codeAny (model P w) callerA (.call (.ref fa) ⟨[.ref a],[]⟩) (fun r s'=>r= .ok (.ret (.bool true))∧OldK bW.heap s'.heap∧s'.os=bW.os∧AllBare s'.gens) bW:=by
  intro H hO hS bH hA hK;have ZO:∀{b:Addr}{o:Obj},bW.heap.get? b=some o→H b=none→(va bW.heap H).get? b=some o:=fun e n=>Cr e n
  have Mr:∀{b:Addr}{o:Obj}{es:Array DictEntry}{ep:Nat},bW.heap.get? b=some o→o.data= .dict es ep→H b=none:=fun{b o es ep} e d=>by
   cases q:H b with
   |none=>rfl
   |some u=>
    have e':b=a:=hA b (by rw[q];simp);subst e';rw[ha]at e;cases e;have d':Data.seq vs.toArray _=Data.dict es ep:=d;cases d'
  have OJ:∀{b:Addr}{m:Str→Option Value},bW.heap.Ns b m→(va bW.heap H).Ns b m:=fun{b m} ⟨o,es,ep,e,d,r⟩=>⟨o,es,ep,ZO e (Mr e d),d,r⟩
  have Ti:K.In (va bW.heap H):=fun b o e=>ZO (KX b o e) (by
   cases q:H b with
   |none=>rfl
   |some u=>
    have e':b=a:=hA b (by rw[q];simp);subst e';rw[hK (by rw[q];simp)]at e;cases e)
  have hM:Mod K mg (va bW.heap H):=⟨Ti,OJ OI,⟨mb,OJ hb,VI⟩,let ⟨mc,h1,h2⟩:=QG;⟨mc,OJ h1,h2⟩⟩
  have e0:yG P w K mg (va bW.heap H) callerA [] bW H:=⟨rfl,hM,fun b o e=>Fx e,Nat.le_of_eq (A0 _ _),trivial,fun b hb=>absurd (show b∈([]:List Addr)from hb) (Zx),bH, .of_eq hg⟩
  refine codeAny_mono ((F _ Ti (OJ OI)).run callerA [] bW H ⟨[.ref a],[]⟩ [.ref a] [.ref a] _ _ hr e0 (MN bW (.ref a)) (.cons rfl .nil) (Ff H hO hS)) fun r s' h=>?_
  cases r with
  |error e=>exact(QH H e s' h).elim
  |ok fl=>
   cases fl with
   |next=>exact False.elim h
   |brk=>exact False.elim h
   |cont=>exact False.elim h
   |ret u=>
    obtain⟨v,H',os,bare,un,QJ,r',q⟩:=h;have q':v= .bl true:=q;subst q';obtain rfl:u=Value.bool true:=r';refine⟨rfl,OldK.of_keep fun b o e=>?_,os,bare⟩;cases q:H b with
    |none=>exact un.keep b o e q (by intro z;exact absurd (show b∈([]:List Addr)from z) (Zx)) (Zx)
    |some u=>
     rcases hO b with z|⟨ob,xs,z⟩
     ·rw[q]at z;cases z
     ·have z2:=un.kM b ob _ z;obtain⟨e1,_⟩:=bH b _ z;obtain⟨e2,_⟩:=QJ b _ z2;rw[e]at e1;cases e1;exact e2
 cases hk:K.lookup a with
 |some o=>
  have e:=KX a o hk;rw[ha]at e;cases e;refine core (fun _=>none) (fun _=> .inl rfl) (.inr ⟨_,vs.toArray,_,hk,rfl,rfl,rfl,by rw[List.size_toArray,QI];exact hl,by simpa using rv⟩) (fun b u z=>by have z':(none:Option HO)=some u:=z;cases z') (fun b z=>absurd rfl z) fun z=>absurd rfl z
 |none=>
  refine core (fun b=>if b=a then some (.q_ {cls:= .type "list",data:= .seq vs.toArray} (.lst (ns.map V.int)))else none) (fun b=>?_) (.inl (.inr ⟨{cls:= .type "list",data:= .seq vs.toArray},if_pos rfl⟩)) (fun b u z=>?_) (fun b z=>?_) fun _=>hk
  ·by_cases hb:b=a
   ·exact .inr ⟨_,_,Zi hb⟩
   ·exact .inl (Ze hb)
  ·by_cases hb:b=a
   ·have z':=(Zi hb).symm.trans z;cases z';subst hb;exact⟨ha,by rw[List.length_map];exact hl,vs,_,rv,ha⟩
   ·have z':=(Ze hb).symm.trans z;cases z'
  ·by_cases hb:b=a
   ·exact hb
   ·exact absurd (Ze hb) z
theorem F9{cm:Bool}{l:PySem.W.OpenLaw}{n k:Nat}{q:Program}{loose:List Str}{XP:(Str→Option Value)→Heap→Prop}{YP:World→Heap→Prop}{d:DefRec}{K:Params→PySem.W.Frag}{CX:World→CJ}{sp:World→Sp}{x:Str}
  (hn:l.most=some n) (wO:n≤sizeLine) (MJ:d.params.defaults=[]) (hr:cY cm k callerA)
  (hY:∀(w:World)(h:Heap),YP w h→(K w.params).In h)
  (F:∀(w:World)(mg:Str→Option Value)(fa:Addr)(h:Heap),(K w.params).In h→h.Ns mainGlobals mg→mg d.name=some (.ref fa)→
   ∃fd:FuncData,(∀(s:Shared)(u:Value),BindsTo s fd ⟨[u],[]⟩ [(x,u)])∧
    ∀base:Heap,(K w.params).In base→base.Ns mainGlobals mg→bf l.prog w (K w.params) mg base (CX w) cm k fa fd [x] (sp w))
  (Ff:∀(w:World)(H:Hp)(a:Addr)(ns:List Int),ns.length≤n→JE H→jC (K w.params) H a (ns.map V.int)→sp w [.ref a] H (fun v _=>v= .bl true) fun _ _ _=>False)
  (QH:∀(w:World)(H:Hp)(s:Shared)(e:Value)(s':Shared),CX w [] H s (fun _ _ _=>False) e s'→False):
  PySem.W.WalkO q loose XP YP l.row.toRowW d [] (fun f vs=>PySem.call f vs):=by
 refine Th.xn hn MJ fun w cL bW mg mb fa o pm cd doc a vs ns G Y ho hd A5 MK JD hints hlen hg=>?_
 have KX:=hY w _ Y;obtain⟨fd,hb,hF⟩:=F w mg fa _ KX G.T.g MK;exact C1 KX G.T.g G.T.b G.T.builtins G.T.nolimit hg JD hints (Nat.le_trans hlen wO) hr hF hb (fun H hO hS=>Ff w H a ns hlen hO hS) fun H e s'=>QH w H bW e s'
def inClass(s:Stmt)(j:Nat):Stmt:=match s with
 | .ClassDef _ _ _ body _ _ _ _ _ _ _=>body.getD j (.Pass ⟨0,0,0,0⟩)
 | _=> .Pass ⟨0,0,0,0⟩
def fo(s:Stmt):Arguments:=match s with
 | .FunctionDef _ a _ _ _ _ _ _ _ _=>a
 | _=>{posonlyargs:=[],args:=[],vararg:=none,kwonlyargs:=[],kw_defaults:=[],kwarg:=none,defaults:=[]}
def dZ(s:Stmt):List Stmt:=match s with
 | .FunctionDef _ _ b _ _ _ _ _ _ _=>b
 | _=>[]
def ao(s:Stmt):Scope:=match s with
 | .FunctionDef _ _ _ _ _ _ sc _ _ _=>sc
 | _=>{kind:= .function,names:=[],isGenerator:=false,isCoroutine:=false}
abbrev E0:XK:=fun _ _ _=>False
structure lO(K:PySem.W.Frag)(x qual:Str)(st:Stmt)(f:Addr)(fd:FuncData):Prop where
 ex:∃(oc:Value)(od:Option Addr)(kV doc pm:Value)(an:Option Addr)(gw ct:Value)(Z1:Array (Option Value)),
  fd=PySem.W.fnOf x qual (fo st) (dZ st) (ao st) .none kV doc pm an gw ct∧K.lookup f=some ⟨oc,od, .func fd,Z1⟩∧PySem.W.codeIn K gw qual=true
 kp:PySem.W.keepIn K (.ref f)=true
section
variable{P:Program}{w:World}{K:PySem.W.Frag}{mg:Str→Option Value}{base:Heap}
theorem lO.binds{x qual:Str}{st:Stmt}{f:Addr}{fd:FuncData}{ps:List Str}(F:lO K x qual st f fd)
  (h:∀(kV doc pm:Value)(an:Option Addr)(gw ct:Value)(us:List Value),us.length=ps.length→bindArgs (PySem.W.fnOf x qual (fo st) (dZ st) (ao st) .none kV doc pm an gw ct) ⟨us,[]⟩=pure (ps.zip us)):Binds K fd ps []:=by
 obtain⟨oc,od,kV,doc,pm,an,gw,ct,Z1,rfl,lk,A5⟩:=F.ex;exact .all (h kV doc pm an gw ct)
theorem C2{x qual:Str}{st:Stmt}{f:Addr}{oc:Value}{od an:Option Addr}{Z1:Array (Option Value)}{kV doc pm gw ct:Value}(l:K.lookup f=some ⟨oc,od, .func (PySem.W.fnOf x qual (fo st) (dZ st) (ao st) .none kV doc pm an gw ct),Z1⟩)
  (c:PySem.W.codeIn K gw qual=true) (k:PySem.W.keepIn K (.ref f)=true):lO K x qual st f (PySem.W.fnOf x qual (fo st) (dZ st) (ao st) .none kV doc pm an gw ct):=⟨⟨oc,od,kV,doc,pm,an,gw,ct,Z1,rfl,l,c⟩,k⟩
end
section
variable{X:Cx}
theorem pv(i:Nat){x:Str}{pos:Pos}(hN:X.N[i]?=some x:=by rfl)(hv:Qa X.env.scope x:=by first|exact Or.inl rfl|exact Or.inr (Or.inl rfl)|exact Or.inr (Or.inr rfl))(hd:(x==("__debug__":Str))=false:=by decide)
  (A5:(x==("__classdict__":Str))=false:=by decide):PE X (.Name x pos) (Jc i):=Jd hN hv hd A5
end
theorem g6{A B:Prop}(h:B):if false=true then A else B:=by
 rw[Ze Bool.false_ne_true];exact h
theorem jH{A B:Prop}(h:A):if true=true then A else B:=by
 rw[if_pos rfl];exact h
theorem bB{c A B:Prop}[Decidable c](h1:c→A)(h2:¬c→B):if c then A else B:=by
 by_cases h:c
 ·rw[Zi h];exact h1 h
 ·rw[Ze h];exact h2 h
def ar(H H':Hp):Prop:=∀b o,H b=some o→H' b=some o
theorem ar.refl(H:Hp):ar H H:=fun _ _ h=>h
theorem ar.trans{H H1 H2:Hp}(a:ar H H1)(b:ar H1 H2):ar H H2:=fun c o h=>b c o (a c o h)
theorem ar.free{H H':Hp}(e:ar H H'){l:Addr}(h:H' l=Option.none):H l=Option.none:=by
 cases q:H l with
 |none=>rfl
 |some o=>
  rw[e l o q]at h;cases h
theorem ar.seq{K:PySem.W.Frag}{H H':Hp}{a:Addr}{xs:List V}(e:ar H H')(h:jC K H a xs):jC K H' a xs:=by
 rcases h with(h|⟨o,h⟩)|h
 ·exact .inl (.inl (e _ _ h))
 ·exact .inl (.inr ⟨o,e _ _ h⟩)
 ·exact .inr h
section
variable{κ:Type}[DecidableEq κ]
theorem xo{kvs:List (κ×V)}{k:κ}(h:bu kvs k=none):¬k∈kvs.map (·.1):=by
 intro m;obtain⟨p,hp,e⟩:=List.mem_map.mp m;have q:(kvs.any fun kv=>decide (kv.1=k))=true:=List.any_eq_true.mpr ⟨p,hp,decide_eq_true e⟩;rw[gZ,h]at q;exact absurd q Zr
theorem ZS{kvs:List (κ×V)}{k:κ}{v:V}(h:bu kvs k=some v):k∈kvs.map (·.1):=by
 have q:(kvs.any fun kv=>decide (kv.1=k))=true:=by
  rw[gZ,h];all_goals rfl
 obtain⟨p,hp,e⟩:=List.any_eq_true.mp q;exact List.mem_map.mpr ⟨p,hp,of_decide_eq_true e⟩
end
end L2
namespace L2
open PySem PySem.Spec PyProof.Rows PySem.W
def dD(P:Program)(w:World):CJ:=fun outer H s E e s'=>
 ∃(ea:Addr)(cls a0:Value)(B:Heap)(H':Hp),e= .ref ea∧s'.os=s.os∧AllBare s'.gens∧Heap.FlyingW B outer ea cls a0 s'.heap∧
  Un (kN outer) [] H H' s.heap s'.heap∧kF P w H' B∧(∀b o,s.heap.get? b=some o→H b=none→b∉kN outer→B.get? b=some o)∧(∀b o,s.heap.get? b=some o→b∉kN outer→∃o',B.get? b=some o')∧E cls none H'
theorem aV{P:Program}{w:World}{X:Cx}:Passes (dD P w) X (fun _=>E0):=fun _ _ _ _ _ _ _ ⟨_,_,_,_,_,_,_,_,_,_,_,_,_,h⟩=>h.elim
structure OL(X:Cx)(E:St→XK):Prop where
 raise:∀(pins:List (Addr×Obj))(σ:St)(H:Hp)(s:Shared)(h':Heap)(e:Addr)(cls:Value)(args:List Value),Inv X pins σ H s→Heap.MadeExcOf s.heap h' e cls args→E σ cls none H→X.xe (.ref e) {s with heap:=h'}
 pass:Passes (dD X.prog X.w) X E
 own:PassesOwn (model X.prog X.w) X.A X.env X.xe
theorem kF.hide{P:Program}{w:World}{H:Hp}{h:Heap}{as:List Addr}(ok:kF P w H h)(hf:∀b∈as,H b=none):kF P w H (hideAll h as):=fun a o e=>
 (ok a o e).rE (fun b u hb q=>hideAll_get _ q fun hm=>by
  rcases hb with rfl|hb
  ·rw[hf _ hm]at e;cases e
  ·rw[hf _ hm]at hb;cases hb) (fun b q=>q) fun b xs q=>q
section
variable{P:Program}{w:World}{K:PySem.W.Frag}{mg:Str→Option Value}{base:Heap}{N:List Str}{qual:Str}{scope:Scope}{f:Addr}{cd:Value}{A:Around}{outer:List Env}{s:Shared}{H:Hp}{E:XK}{cm:Bool}
theorem rT{P:Program}{w:World}{H:Hp}{h:Heap}{a:Addr}{o:HO}(x:cB P w H h a o):∃q,h.get? a=some q:=by
 cases o with
 |lst xs=>obtain⟨_,its,n,_,e⟩:=x;exact⟨_,e⟩
 |tup xs=>obtain⟨_,its,_,o,e,_⟩:=x;exact⟨_,e⟩
 |dK kvs=>obtain⟨_,_,vs,_,o,es,ep,e,_⟩:=x;exact⟨_,e⟩
 |dT kvs=>obtain⟨_,_,xs,_,o,es,ep,e,_⟩:=x;exact⟨_,e⟩
 |set S n=>obtain⟨o,es,ep,t,e,_⟩:=x;exact⟨_,e⟩
 |ins C dx fs=>obtain⟨_,_,_,e,_⟩:=x;exact⟨_,e⟩
 |own y=>exact x
 |xd fs=>obtain⟨mA,⟨o,es,ep,e,_⟩,_⟩:=x;exact⟨_,e⟩
 |met f y=>exact⟨_,x⟩
 |Oy lo hi=>obtain⟨t,u,v,e⟩:=x;exact⟨_,e⟩
 |q_ o u=>exact⟨_,x.1⟩
 |Fw ps=>exact⟨_,x⟩
 |ext φ=>exact x.2.1
theorem ZM:OL (yI (dD P w) cm P w K mg base N qual scope f cd A outer s H E) (fun _=>E):=by
 refine⟨?_,?_,PassesOwn.leaving⟩
 ·intro pins σ H1 s1 h' e cls args I hx hE;have JF:(A.deeper (envOfC qual scope s.heap.objs.size f cd)).frames=some (envOfC qual scope s.heap.objs.size f cd::outer):=I.ok.frames;have uA:s1.heap.FunFrames base (envOfC qual scope s.heap.objs.size f cd::outer):=I.stack;have pz:∀env∈(envOfC qual scope s.heap.objs.size f cd::outer),∀b,env.frame=some b→b∈(envOfC qual scope s.heap.objs.size f cd::outer).filterMap (·.frame):=fun env he b hb=>List.mem_filterMap.mpr ⟨env,he,hb⟩
  have zM:∀b∈(envOfC qual scope s.heap.objs.size f cd::outer).filterMap (·.frame),H1 b=none:=I.vc;show wpAny (model P w) (A.deeper (envOfC qual scope s.heap.objs.size f cd)) (leaving (envOfC qual scope s.heap.objs.size f cd) (.ref e)) (fun _ vh=>dD P w outer H s E (.ref e) vh) (fun e' vh=>dD P w outer H s E e' vh) {s1 with heap:=h'};have yO:∀b o,s.heap.get? b=some o→b∉kN outer→b∉(envOfC qual scope s.heap.objs.size f cd::outer).filterMap (·.frame):=fun b o q hb hm=>by
   obtain⟨env,he,hf⟩:=List.mem_filterMap.mp hm;rcases List.mem_cons.mp he with rfl|he
   ·have z:s.heap.objs.size=b:=Option.some.inj hf;exact absurd (Heap.lt_size q) (by rw[z];exact Nat.lt_irrefl _)
   ·exact hb (List.mem_filterMap.mpr ⟨env,he,hf⟩)
  refine wpAny_leaves_madeW (s:={s1 with heap:=h'}) (h:=s1.heap) (base:=hideAll s1.heap ((envOfC qual scope s.heap.objs.size f cd::outer).filterMap (·.frame))) (L:=s.heap.objs.size) JF rfl (fun b o q=>of_hideAll _ q) (funFrames_hide uA pz) hx fun h2 t x1 x2 x3 x4=>?_
  have bs:Un (kN outer) [] H H1 s.heap s1.heap:=I.base;have kB:∀b o,s.heap.get? b=some o→H b=none→b∉kN outer→(hideAll s1.heap ((envOfC qual scope s.heap.objs.size f cd::outer).filterMap (·.frame))).get? b=some o:=fun b o q hn hb=>
   hideAll_get _ (bs.keep b o q hn hb Zr) (yO b o q hb)
  have hB:kF P w H1 (hideAll s1.heap ((envOfC qual scope s.heap.objs.size f cd::outer).filterMap (·.frame))):=I.bH.hide zM;refine⟨e,cls, .ref t,_,H1,rfl,I.os,I.bare,x1,?_,hB,kB,fun b o q hb=>?_,hE⟩
  rotate_left
  ·obtain⟨o',e1⟩:=bs.there b o q Zr;exact⟨o',hideAll_get _ e1 (yO b o q hb)⟩
  refine⟨fun b o q hn hb _=>x1.1 b o (kB b o q hn hb),fun b o q hn hb _=>?_,fun b o q hn _=>bs.free b o q hn Zr,fun b o q _=>?_,bs.cw,bs.kM,bs.mM⟩
  ·obtain⟨sl,e1⟩:=bs.slot b o q hn hb Zr;have HL:s1.heap.FunFrames base outer:=uA.2.2;obtain⟨_,o2,e2,yP⟩:=HL.mem hb;rw[e1]at e2;cases e2;obtain⟨mC,e3⟩:=x4 b _ (hx.keeps _ _ e1) yP;exact⟨mC,e3⟩
  ·cases q1:H1 b with
   |some u=>
    obtain⟨oo,z⟩:=rT (hB b u q1);exact⟨oo,x1.1 b oo z⟩
   |none=>
    cases q0:H b with
    |none=>
     by_cases hb:b∈kN outer
     ·obtain⟨sl,e1⟩:=bs.slot b o q q0 hb Zr;have HL:s1.heap.FunFrames base outer:=uA.2.2;obtain⟨_,o2,e2,yP⟩:=HL.mem hb;rw[e1]at e2;cases e2;obtain⟨mC,e3⟩:=x4 b _ (hx.keeps _ _ e1) yP;exact⟨_,e3⟩
     ·exact⟨o,x1.1 b o (kB b o q q0 hb)⟩
    |some u=>
     obtain⟨o',e1⟩:=bs.there b o q Zr;by_cases hb:b∈kN outer
     ·have HL:s1.heap.FunFrames base outer:=uA.2.2;obtain⟨_,o2,e2,yP⟩:=HL.mem hb;obtain⟨mC,e3⟩:=x4 b _ (hx.keeps _ _ e2) yP;exact⟨_,e3⟩
     ·exact⟨o',x1.1 b o' (hideAll_get _ e1 (yO b o q hb))⟩
 ·rintro pins σ H1 s1 e s2 I ⟨ea,cls,a0,B,H',rfl,os,bare,OM,un,hB,kB,tB,hE⟩;have JF:(A.deeper (envOfC qual scope s.heap.objs.size f cd)).frames=some (envOfC qual scope s.heap.objs.size f cd::outer):=I.ok.frames;show wpAny (model P w) (A.deeper (envOfC qual scope s.heap.objs.size f cd)) (leaving (envOfC qual scope s.heap.objs.size f cd) (.ref ea)) (fun _ vh=>dD P w outer H s E (.ref ea) vh) (fun e' vh=>dD P w outer H s E e' vh) s2;have OM:Heap.FlyingW B (envOfC qual scope s.heap.objs.size f cd::outer) ea cls a0 s2.heap:=OM;have un:Un (kN (envOfC qual scope s.heap.objs.size f cd::outer)) [] H1 H' s1.heap s2.heap:=un;have kB:∀b o,s1.heap.get? b=some o→H1 b=none→b∉kN (envOfC qual scope s.heap.objs.size f cd::outer)→B.get? b=some o:=kB;have yO:∀b o,s.heap.get? b=some o→b∉kN outer→b∉kN (envOfC qual scope s.heap.objs.size f cd::outer):=fun b o q hb hm=>by
   obtain⟨env,he,hf⟩:=List.mem_filterMap.mp hm;rcases List.mem_cons.mp he with rfl|he
   ·have z:s.heap.objs.size=b:=Option.some.inj hf;exact absurd (Heap.lt_size q) (by rw[z];exact Nat.lt_irrefl _)
   ·exact hb (List.mem_filterMap.mpr ⟨env,he,hf⟩)
  have QK:∀b,b∈kN outer→b∈kN (envOfC qual scope s.heap.objs.size f cd::outer):=fun b hb=>by
   obtain⟨env,he,hf⟩:=List.mem_filterMap.mp hb;exact List.mem_filterMap.mpr ⟨env,List.mem_cons_of_mem _ he,hf⟩
  have bs:Un (kN outer) [] H H1 s.heap s1.heap:=I.base;refine wpAny_leaves_onW (L:=s.heap.objs.size) JF rfl OM fun h2 x1 x4=>?_
  have Tj:∀b o,s.heap.get? b=some o→H b=none→b∉kN outer→B.get? b=some o:=fun b o q hn hb=>kB b o (bs.keep b o q hn hb Zr) (bs.free b o q hn Zr) (yO b o q hb)
  have HL:s2.heap.FunFrames B outer:=OM.2.2.1.2.2;refine⟨ea,cls,a0,B,H',rfl,os.trans I.os,bare,x1,?_,hB,Tj,fun b o q hb=>?_,hE⟩
  rotate_left
  ·obtain⟨o',e1⟩:=bs.there b o q Zr;exact tB b o' e1 (yO b o q hb)
  refine⟨fun b o q hn hb _=>x1.1 b o (Tj b o q hn hb),fun b o q hn hb _=>?_,fun b o q hn _=>?_,fun b o q _=>?_,fun b xs q=>un.cw b xs (bs.cw b xs q),fun b o u q=>un.kM b o u (bs.kM b o u q),fun b ps q=>?_⟩
  ·obtain⟨sl,e1⟩:=bs.slot b o q hn hb Zr;obtain⟨Ys,e2⟩:=un.slot b _ e1 (bs.free b o q hn Zr) (QK b hb) (Zx);obtain⟨_,o2,e3,yP⟩:=HL.mem hb;rw[e2]at e3;cases e3;obtain⟨mC,e4⟩:=x4 b _ e2 yP;exact⟨mC,e4⟩
  ·by_cases hb:b∈kN outer
   ·obtain⟨sl,e1⟩:=bs.slot b o q hn hb Zr;exact un.free b _ e1 (bs.free b o q hn Zr) (Zx)
   ·exact un.free b o (bs.keep b o q hn hb Zr) (bs.free b o q hn Zr) (Zx)
  ·obtain⟨o',e1⟩:=bs.there b o q Zr;obtain⟨o2,e2⟩:=un.there b o' e1 Zr;by_cases hb:b∈kN outer
   ·obtain⟨_,o3,e3,yP⟩:=HL.mem hb;obtain⟨mC,e4⟩:=x4 b _ e3 yP;exact⟨_,e4⟩
   ·obtain⟨o3,e3⟩:=tB b o' e1 (yO b o q hb);exact⟨o3,x1.1 b o3 e3⟩
  ·obtain⟨more,z⟩:=bs.mM b ps q;obtain⟨MO,z2⟩:=un.mM b _ z;exact⟨more++MO,by rw[z2,Array.append_assoc]⟩
end
end L2
namespace L2
open PySem PySem.Spec PyProof.Rows PySem.W PySem.Calls Builtin Builtin.ObjectAttr Builtin.Getset_descriptor
section
variable{prog:Program}{w:World}{A:Around}{E:Value→Shared→Prop}{K:Frag}{x C:Addr}{o:Obj}{hh:Heap}{g:Array GenState}{d:Drawn}{t:Nat}{os:OsState}
theorem uL{M:Model}{h:Heap}(hx:h.get? x=some o)(hc:o.cls= .ref C):Looks M h (typeOf (.ref x)) (.ref C):=by
 rw[←hc];exact(Looks.ld hx).andThen .now
theorem vo{tp:Value}{R:Result→Shared→Prop}(X:K.In hh)(hx:hh.get? x=some o)(hc:o.cls= .ref C)(hm:mroIn K C (.type "object")=some true)
  (h:R (.ok (.ret (.ref C))) ⟨hh,g,d,t,os⟩):codeAny (model prog w) A (.call (.builtin "getset_descriptor.__get__") ⟨[.builtin "object.__class__", .ref x,tp],[]⟩) R ⟨hh,g,d,t,os⟩:=by
 have L0:=uL (M:=model prog w) hx hc;have L1:=looks_mroIn (M:=model prog w) X hm;refine codeAny_call_builtin KF.slot_gs.plain KF.entry_gs (KF.slot_gs.check _ _ _ _ _ _ _ _ KF.type_class (KF.args_gs _ _ _) ?_);unfold Builtin.«getset_descriptor.__get__» descrGet;rw[dga_obj];refine wpAny_bind (wpAny_pure ?_);unfold descrGetter descrCheckInstance descrNameAndClass isInstance;simp only[KF.owner_class]
 repeat lk
 refine⟨Code.quiet_builtin _ (by decide+kernel),codeAny_builtin KF.entry_class ?_⟩;unfold Builtin.«object.__class__» shownTypeOf
 repeat lk
 exact h
theorem C3{tk:Tok}{Q:PySem.Fin→Shared→Prop}(X:K.In hh)(hx:hh.get? x=some o)(hc:o.cls= .ref C)(ha:findIn K (.ref C) "__class__"=some (some (.builtin "object.__class__")))(hm:mroIn K C (.type "object")=some true)
  (hq:Q (.done (.ret (.ref C))) ⟨hh,g,d,t,os⟩):wpAny (model prog w) A (Builtin.«object.__getattribute__» ⟨[.ref x, .str "__class__" tk],[]⟩) Q E ⟨hh,g,d,t,os⟩:=by
 have L0:=uL (M:=model prog w) hx hc;have L1:=looks_findIn (M:=model prog w) X ha;have Yt:(⟨hh,g,d,t,os⟩:Shared).TypeIs (.builtin "object.__class__") "getset_descriptor":=F.typeOf_object_class;have f5:=F.typeOf_object_class;have f6:=F.slot_gs_get.lookup;have f7:=F.slot_gs_set.lookup
 repeat (any_goals (first|assumption|with_reducible refine L0.at ?_|with_reducible refine L1.at ?_|(with_reducible refine wpAny_loadPart_at hx ?_;rw[hc])|wp_step))
 refine vo X hx hc hm ?_
 repeat (any_goals (first|assumption|wp_step))
theorem F_{tk:Tok}{R:Result→Shared→Prop}(X:K.In hh)(hx:hh.get? x=some o)(hc:o.cls= .ref C)(ha:findIn K (.ref C) "__class__"=some (some (.builtin "object.__class__")))(hm:mroIn K C (.type "object")=some true)
  (hb:mroIn K C (.type "BaseException")=some true) (hq:R (.ok (.ret (.ref C))) ⟨hh,g,d,t,os⟩):
  codeAny (model prog w) A (.call (.builtin "BaseException.__getattribute__") ⟨[.ref x, .str "__class__" tk],[]⟩) R ⟨hh,g,d,t,os⟩:=by
 have L0:=uL (M:=model prog w) hx hc;have L1:=looks_mroIn (M:=model prog w) X hb;have hk:builtinKind "BaseException.__getattribute__"=some .slot:=by decide+kernel
 have JG:splitId "BaseException.__getattribute__"=some ("BaseException","__getattribute__"):=by decide+kernel
 have L2:Looks (model prog w) hh (isInstance (.ref x) (.type "BaseException")) true:=by
  unfold isInstance;exact L0.andThen L1
 refine codeAny_call_builtin F.attr_ValueError.ga.plain F.entry_bexc_ga ?_;have VJ:=@check_slot (model prog w) A.in1 (fun e s'=>R (.error e) s') ⟨hh,g,d,t,os⟩ "BaseException.__getattribute__" "BaseException" "__getattribute__" (.ref x) [.str "__class__" tk] [];refine VJ hk JG L2 (F.args_bexc_ga _ _) ?_;exact C3 X hx hc ha hm hq
theorem MP{tk:Tok}{Q:Value→Shared→Prop}(X:K.In hh)(hx:hh.get? x=some o)(hc:o.cls= .ref C)(ha:findIn K (.ref C) "__class__"=some (some (.builtin "object.__class__")))(hm:mroIn K C (.type "object")=some true)
  (hb:mroIn K C (.type "BaseException")=some true) (QL:findIn K (.ref C) "__getattribute__"=some (some (.builtin "BaseException.__getattribute__"))) (F':findIn K (.ref C) "__getattr__"=some none)
  (hq:Q (.ref C) ⟨hh,g,d,t,os⟩):wpAny (model prog w) A (getAttrBy (.ref x) (.str "__class__" tk) false) Q E ⟨hh,g,d,t,os⟩:=by
 have L0:=uL (M:=model prog w) hx hc;have L1:=looks_findIn (M:=model prog w) X QL;have L2:=looks_findIn (M:=model prog w) X F';have f3:=F.attr_ValueError.ga.bind (.ref x);have Bo:(Value.builtin "BaseException.__getattribute__"==Value.builtin "object.__getattribute__")=false:=by decide+kernel
 have kW:(onTheHeap (Value.ref C)&&Value.builtin "BaseException.__getattribute__"==Value.builtin "object.__getattribute__")=false:=by rw[Bo];rfl
 repeat (any_goals (first|assumption|with_reducible refine L0.at ?_|with_reducible refine L1.at ?_|with_reducible refine L2.at ?_|wp_step))
 refine F_ X hx hc ha hm hb ?_
 repeat (any_goals (first|assumption|wp_step))
theorem C4{Q:Option Value→Shared→Prop}(X:K.In hh)(hx:hh.get? x=some o)(hc:o.cls= .ref C)(ha:findIn K (.ref C) "__class__"=some (some (.builtin "object.__class__")))(hm:mroIn K C (.type "object")=some true)
  (hb:mroIn K C (.type "BaseException")=some true) (QL:findIn K (.ref C) "__getattribute__"=some (some (.builtin "BaseException.__getattribute__"))) (F':findIn K (.ref C) "__getattr__"=some none)
  (hq:Q (some (.ref C)) ⟨hh,g,d,t+1,os⟩):wpAny (model prog w) A (getAttr? (.ref x) "__class__") Q E ⟨hh,g,d,t,os⟩:=by
 unfold getAttr? getAttrBy?
 repeat (any_goals (first|assumption|with_reducible apply MP X hx hc ha hm hb QL F'|wp_step))
end
structure qJ(K:Frag)(C:Addr):Prop where
 ex:excIn K C [.type "ValueError", .type "Exception", .type "BaseException", .type "object"] "ValueError.__new__"=true
 cl:findIn K (.ref C) "__class__"=some (some (.builtin "object.__class__"))
 ob:mroIn K C (.type "object")=some true
 be:mroIn K C (.type "BaseException")=some true
 ga:findIn K (.ref C) "__getattribute__"=some (some (.builtin "BaseException.__getattribute__"))
 gn:findIn K (.ref C) "__getattr__"=some none
 tu:instIn K (.ref C) (.type "tuple")=some false
 kp:keepIn K (.ref C)=true
theorem qJ.cls{K:Frag}{C:Addr}(c:qJ K C):∃cd,clsIn K C=some cd:=by
 have h:=c.ob;unfold mroIn at h;cases e:clsIn K C with
 |none=>rw[e]at h;cases h
 |some cd=>exact⟨cd,rfl⟩
theorem qJ.isType{K:Frag}{C:Addr}{M:Model}{h:Heap}(c:qJ K C)(X:K.In h):Looks M h (PySem.isType (.ref C)) true:=by
 obtain⟨cd,FN⟩:=c.cls;unfold clsIn at FN;split at FN
 ·rename_i c' d' VL L8 ho
  intro A' Q' E' s' k q;unfold PySem.isType loadHead;exact wpAny_bind (wpAny_loadPart (k _ _ (X _ _ ho)) (wpAny_pure q))
 ·cases FN
def ExcAt(x C:Addr)(h:Heap):Prop:=∃o,h.get? x=some o∧o.cls= .ref C
theorem C5{K:Frag}{x C:Addr}(c:qJ K C):KitX K (.ref x) (.ref C) (ExcAt x C) where
 ty:=fun _ _ _ ⟨_,hx,hc⟩=>uL hx hc
 it:=fun _ _ X _=>c.isType X
 ne:=fun h tp dd its n sl X VM=>by
  obtain⟨cd,FN⟩:=c.cls;refine Bool.eq_false_iff.mpr fun q=>?_
  have e:C=tp:=Value.ref.inj (beq_iff_eq.mp q);subst e;unfold clsIn at FN;split at FN
  ·rename_i c' d' VL L8 ho
   have z:=(X _ _ ho).symm.trans VM;cases z
  ·cases FN
 ca:=fun{_ _ _ _ _ s} X ⟨o,hx,hc⟩ k=>by
  obtain⟨hp,g,d,t,os⟩:=s;exact C4 X hx hc c.cl c.ob c.be c.ga c.gn k
abbrev HO.exc(x C:Addr):HO:= .ext (ExcAt x C)
theorem yQ{X:Cx}{pins:List (Addr×Obj)}{σ:St}{H:Hp}{s:Shared}{A:Around}{E:Value→Shared→Prop}{Q:Value→Shared→Prop}{x C:Addr}{D:Value}{b:Bool}(I:Inv X pins σ H s)(ha:H x=some (.exc x C))(c:qJ X.K C)
  (e:kitOne X.K (.ref C) D=some b) (h:∀tk,Q (.bool b) {s with toks:=tk}):wpAny (model X.prog X.w) A (call (.builtin "isinstance") [.ref x,D]) Q E s:=
 kia_one (C5 c) I.nI (I.bH x _ ha).1 e (fun z=>nomatch z) h
theorem rV{M:Model}{A:Around}{E:Value→Shared→Prop}{s:Shared}{K:Frag}{x C D:Addr}{b:Bool}{Q:Bool→Shared→Prop}(X:K.In s.heap)(hx:ExcAt x C s.heap)(c:qJ K D)(hm:mroIn K C (.ref D)=some b)
  (h:Q b s):wpAny M A (excMatches (.ref x) (.ref D)) Q E s:=by
 obtain⟨o,hx,hc⟩:=hx;obtain⟨hp,g,d,t,os⟩:=s;have L0:=uL (M:=M) hx hc;have L1:=looks_instIn (M:=M) X c.tu;have L2:=c.isType (M:=M) X;have L3:=looks_mroIn (M:=M) X c.be;have L4:=looks_mroIn (M:=M) X hm;unfold excMatches isExcClass
 repeat (first|with_reducible refine L1.at ?_|with_reducible refine L2.at ?_|with_reducible refine L3.at ?_|with_reducible refine L4.at ?_|with_reducible refine L0.at ?_|wp_step)
 cases b<;>(repeat (first|assumption|wp_step))
end L2
namespace L2
open PySem PySem.Spec PyProof.Rows PySem.W PySem.Calls
theorem Ga{K:Frag}{h:Heap}{C:Addr}{Tn:List Value}{newId:String}(X:K.In h)(q:excIn K C Tn newId=true):
  ∃bm N nm qn bs hdct sn sub ab col dd k0 k1 k2 k3 k5 mN,h.get? C=some (excClassObj nm qn C N bs bm hdct sn sub ab col dd k0 k1 k2 k3 k5 newId)∧h.Ns N mN∧mN "__init__"=none∧OwnTail h Tn bm:=by
 unfold excIn at q;split at q
 ·rename_i dd cd sl ho
  split at q
  ·rename_i C' bm k0 k1 k2 k3 n k5 hm hs
   simp only[Bool.and_eq_true,beq_iff_eq,Bool.not_eq_true']at q;obtain⟨⟨⟨⟨⟨rfl,rfl⟩,MQ⟩,ht⟩,bH⟩,ON⟩:=q;obtain⟨nm,bs,mro,ns,qn,hd,sn,sub,ab,col,del⟩:=cd;dsimp only at hm MQ bH ON;subst hm MQ;have QM:sl=#[k0,k1,k2,k3,some (.builtin n),k5]:=by
    obtain⟨l⟩:=sl;simp only at hs;rw[hs]
   subst QM;exact⟨bm,ns,nm,qn,bs,hd,sn,sub,ab,col,dd,k0,k1,k2,k3,k5,_,X _ _ ho, .of_isNs (isNs_of_in X bH),nsMap_none_of_in X bH ON,tail_of_in X ht⟩
  ·cases q
 ·cases q
section
variable{X:Cx}{x:Str}{np dW pos:Pos}{e:Expr}{es:List Expr}{t:TA}{C:Addr}{E:St→XK}
def JH(C:Addr)(E:St→XK)(t:TA):TS:=fun _ σ H=>t σ H fun vs H1=>vs.length≤sizeLine∧E σ (.ref C) none H1
theorem iK(hX:OL X E)(hc:X.calm=true)(hg:Gl X x)(hm:X.mg x=some (.ref C))(c:qJ X.K C)(ha:PA X (e::es) t)(tT:(x==("__debug__":Str))=false:=by decide)
  (he:starEach (e::es) X.env=(false,eval e X.env)::starEach es X.env:=by rfl) (pG:(backTo dW (starEach es X.env)).any (·.1)=false:=by rfl):
  PS X (.Raise (some (.Call (.Name x np) (e::es) [] dW)) none pos) (JH C E t):=by
 intro pins s σ H D I h;obtain⟨bm,N,nm,qn,bs,hdct,sn,sub,ab,col,dd,k0,k1,k2,k3,k5,mN,hC,hN,ON,T⟩:=Ga I.ok.mod.Lh c.ex;refine wpAny_Raise_call_subT (C:=C) (nm:=nm) (q:=qn) (N:=N) (bs:=bs) (bm:=bm) (hdct:=hdct) (sn:=sn) (sub:=sub) (ab:=ab) (col:=col) (dd:=dd) (k0:=k0) (k1:=k1) (k2:=k2) (k3:=k3) (k5:=k5)
  F.excBase_ValueError (mN:=mN) (T.hasType F.excBase_ValueError.hasBase) (I.ok.hd hc) (by rw[he];show(false||(backTo dW (starEach es X.env)).any (·.1))=false;rw[pG];rfl) ON (lK I hg hm ⟨rfl,?_⟩ tT)
 have hq:=cz (ha dW pins s σ H _ I h) fun us s2 ⟨vs,H2,I2,r2,q2⟩=>show us.length≤sizeLine∧(∀b o,X.base.get? b=some o→s2.heap.get? b=some o)∧∀h' e,Heap.MadeExcOf s2.heap h' e (.ref C) us→X.xe (.ref e) {s2 with heap:=h'}from
  ⟨by rw[←r2.length];exact q2.1,I2.bk,fun h' e hx=>hX.raise pins σ H2 s2 h' e (.ref C) us I2 hx q2.2⟩
 rw[he]at hq⊢;exact evalArgs_plain (wpAny_mono hq (fun vs s2 h2=>⟨rfl,h2.1,h2.2.1 _ _ hC,hN.keeps h2.2.1,T.keeps h2.2.1,h2.2.2⟩) fun _ _ y=>y)
end
section
variable{X:Cx}{e v1 v2:Expr}{es:List Expr}{te:TE}{pos:Pos}
def QN(te:TE):TE:=fun σ H Q=>te σ H fun x H1=>(∃y,x= .str y∧y.length≤sizeLine∧Q (.str y) H1)∨∃i:Int,x= .int i∧i.natAbs.log2<1920∧Q (.str (toString i)) H1
theorem pI(h:PE X e te):PE X (.FormattedValue e (-1) none pos) (QN te):=by
 intro pins s σ H Q I hq;refine FormattedValue_plain (cz (h pins s σ H _ I hq) fun u s1 ⟨x,H1,I1,r1,q1⟩=>?_);rcases q1 with⟨y,rfl,hy,q⟩|⟨i,rfl,hi,q⟩
 ·obtain⟨t,rfl⟩:=r1;exact formatField_str (fun t' tk=>⟨.str y,H1,I1.tok _,⟨_,rfl⟩,q⟩) hy
 ·obtain⟨t,rfl⟩:=r1;exact formatField_int_small hi ⟨.str (toString i),H1,I1.tok _,⟨_,rfl⟩,q⟩
abbrev TJ:=Str→TE
def PJ(X:Cx)(es:List Expr)(t:TJ):Prop:=
 ∀(acc:Str)(pins:List (Addr×Obj))(s:Shared)(σ:St)(H:Hp)(Q:VK),Inv X pins σ H s→t acc σ H Q→wpAny (model X.prog X.w) X.A (joinParts acc (evalEach es X.env)) (EP X pins σ Q) X.xe s
def MR:TJ:=fun acc _ H Q=>acc.length≤sizeLine∧Q (.str acc) H
def JI(te:TE)(t:TJ):TJ:=fun acc σ H Q=>te σ H fun x H1=>∃y,x= .str y∧(acc++y).length≤sizeLine∧t (acc++y) σ H1 Q
theorem vp:PJ X [] MR:=fun acc _ s σ H Q I h=>joinParts_nil ⟨.str acc,H,I.tok _,⟨_,rfl⟩,h.2⟩ h.1
theorem eW{t:TJ}(h1:PE X e te)(h2:PJ X es t):PJ X (e::es) (JI te t):=by
 intro acc pins s σ H Q I h;refine joinParts_cons (cz (h1 pins s σ H _ I h) fun u s1 ⟨x,H1,I1,r1,y,e,hl,q⟩=>?_);subst e;obtain⟨tk,rfl⟩:=r1;exact⟨hl,h2 _ pins s1 σ H1 Q I1 q⟩
theorem lP{t:TJ}(h:PJ X (v1::v2::es) t):PE X (.JoinedStr (v1::v2::es) pos) (t Str.empty):=fun pins s σ H Q I hq=>JoinedStr_many (h Str.empty pins s σ H Q I hq)
end
abbrev Cx.ky(X:Cx)(e:Addr):Cx:={X with A:=X.A.mark (some (.ref e)),calm:=false,xe:=fun _ _=>False}
theorem cY.mark{cm:Bool}{k:Nat}{A:Around}(r:cY cm k A)(v:Option Value):cY false k (A.mark v):=⟨(fun z=>nomatch z),r.dp,r.un⟩
theorem Cx.Ok.ky{X:Cx}(ok:X.Ok)(e:Addr):(X.ky e).Ok:=
 ⟨ok.mod,ok.kind,ok.glob,ok.blt,ok.above,ok.inj,ok.has,ok.L6,(fun z=>nomatch z),ok.frames,ok.OA,ok.SX,ok.bs,ok.Fz,ok.Cs,ok.FA,ok.qH,ok.I_⟩
theorem Inv.ky{X:Cx}{pins:List (Addr×Obj)}{σ:St}{H:Hp}{s:Shared}(I:Inv X pins σ H s)(e:Addr):Inv (X.ky e) pins σ H s:=⟨I.ok.ky e,I.os,I.bare,I.base,I.loc,I.cell,I.free,I.ip,I.pin,I.bH,I.len⟩
theorem Inv.rk{X:Cx}{pins:List (Addr×Obj)}{σ:St}{H:Hp}{s:Shared}{e:Addr}(ok:X.Ok)(I:Inv (X.ky e) pins σ H s):Inv X pins σ H s:=⟨ok,I.os,I.bare,I.base,I.loc,I.cell,I.free,I.ip,I.pin,I.bH,I.len⟩
def C6(X:Cx)(pins:List (Addr×Obj))(σ:St)(H:Hp)(s:Shared)(ea C:Addr)(B:Heap)(a0:Value):Prop:=
 ∃Hp sp,Inv X pins σ Hp sp∧s.os=sp.os∧AllBare s.gens∧Un (kN X.stack) [] Hp H sp.heap s.heap∧kF X.prog X.w H B∧(∀b o,sp.heap.get? b=some o→Hp b=none→b∉kN X.stack→B.get? b=some o)∧
  (∀b o,sp.heap.get? b=some o→b∉kN X.stack→∃o',B.get? b=some o')∧B.StaysIn s.heap∧B.get? ea=none∧s.heap.FunFrames B X.stack∧ExcAt ea C s.heap∧(∃ob vs,s.heap.get? ea=some ob∧ob.data= .fields vs)
section
variable{X:Cx}{pins:List (Addr×Obj)}{σ:St}{H:Hp}{s:Shared}{ea C:Addr}{B:Heap}{a0:Value}
theorem C6.inv(f:C6 X pins σ H s ea C B a0):Inv X pins σ H s:=by
 obtain⟨Hp,sp,I,os,bare,un,hB,kB,tB,st,en,ff,ex⟩:=f;exact I.Ht (ch:=[]) os un (hB.kept st) bare fun b z=>absurd z Zr
theorem C6.turn{h2:Heap}{a1:Value}(f:C6 X pins σ H s ea C B a0)(fl:Heap.FlyingW B X.stack ea (.ref C) a1 h2)(up:s.heap.UpToSlots h2):C6 X pins σ H {s with heap:=h2} ea C B a1:=by
 obtain⟨Hp,sp,I,os,bare,un,hB,kB,tB,st,en,ff,ex⟩:=f;obtain⟨ob,e1,e2⟩:=fl.there;obtain⟨oe,vs,e3,_,e4,_⟩:=fl.first;refine⟨Hp,sp,I,os,bare,⟨fun b o q hn hb _=>fl.1 b o (kB b o q hn hb),fun b o q hn hb _=>?_,un.free,fun b o q _=>?_,un.cw,un.kM,un.mM⟩,hB,kB,tB,fl.1,en,fl.2.2.1,⟨ob,e1,e2⟩,oe,vs,e3,e4⟩
 ·obtain⟨sl,q1⟩:=un.slot b o q hn hb Zr;obtain⟨_,o2,q2,yP⟩:=ff.mem hb;rw[q1]at q2;cases q2;obtain⟨mC,q3⟩:=up b _ q1 yP;exact⟨mC,q3⟩
 ·by_cases hb:b∈kN X.stack
  ·obtain⟨_,o2,q2,yP⟩:=ff.mem hb;obtain⟨mC,q3⟩:=up b _ q2 yP;exact⟨_,q3⟩
  ·obtain⟨o3,q3⟩:=tB b o q hb;exact⟨o3,fl.1 b o3 q3⟩
theorem C6.fresh(f:C6 X pins σ H s ea C B a0):H ea=none∧(∀o,X.cL.heap.get? ea=some o→ea∈X.ex)∧ea≠X.env.locals∧(∀x c,X.env.cells.lookup x=some c→c≠ea)∧(∀p∈X.pn++pins,p.1≠ea):=by
 have I0:=f.inv;obtain⟨Hp,sp,I,os,bare,un,hB,kB,tB,st,en,ff,ex,ob,vs,eo,ed⟩:=f;have nf:ea∉kN X.stack:=fun hm=>by
  obtain⟨_,o2,q2,yP⟩:=ff.mem hm;rw[eo]at q2;cases q2;exact yP vs ed
 have np:∀o,sp.heap.get? ea≠some o:=fun o q=>by
  obtain⟨o3,q3⟩:=tB ea o q nf;rw[en]at q3;cases q3
 refine⟨?_,?_,fun z=>?_,fun x c e z=>?_,fun p hp z=>?_⟩
 ·cases q:H ea with
  |none=>rfl
  |some u=>
   obtain⟨o,z⟩:=rT (hB ea u q);rw[en]at z;cases z
 ·intro o q;by_cases hx:ea∈X.ex
  ·exact hx
  ·obtain⟨o',z⟩:=I.base.there ea o q hx;exact absurd z (np o')
 ·obtain⟨m,⟨oL,_,_,Cu,_⟩,_⟩:=I.loc;exact np oL (z▸Cu)
 ·obtain⟨v,o,ho,_⟩:=I.cell x c e;exact np o (z▸ho)
 ·exact np p.2 (z▸(I.pin p hp).1)
theorem Inv.MS{o:HO}(I:Inv X pins σ H s)(hn:H ea=none)(h0:∀o,X.cL.heap.get? ea=some o→ea∈X.ex)(hl:ea≠X.env.locals)(hc:∀x c,X.env.cells.lookup x=some c→c≠ea)(hp:∀p∈X.pn++pins,p.1≠ea)
  (new:cB X.prog X.w (upd H ea o) s.heap ea o):Inv X pins σ (upd H ea o) s:=by
 have ne:∀b u,H b=some u→b≠ea:=fun b u e z=>by rw[z,hn]at e;cases e
 refine⟨I.ok,I.os,I.bare,⟨I.base.keep,I.base.slot,fun b ob q n hx=>?_,I.base.there,fun b xs q=>?_,fun b ob u q=>?_,fun b ps q=>?_⟩,I.loc,I.cell,?_,fun x c e=>?_,fun p OO=>?_,fun b u e=>?_,I.len⟩
 ·rw[ai (fun z=>hx (by rw[z]at q⊢;exact h0 ob q))];exact I.base.free b ob q n hx
 ·have q1:=I.base.cw b xs q;rw[ai (ne _ _ q1)];exact q1
 ·have q1:=I.base.kM b ob u q;rw[ai (ne _ _ q1)];exact q1
 ·obtain⟨more,q1⟩:=I.base.mM b ps q;exact⟨more,by rw[ai (ne _ _ q1)];exact q1⟩
 ·rw[ai (Ne.symm hl)];exact I.free
 ·rw[ai (hc x c e)];exact I.ip x c e
 ·obtain⟨e,n,r⟩:=I.pin p OO;exact⟨e,by rw[ai (hp p OO)];exact n,r⟩
 ·by_cases hb:b=ea
  ·subst hb;rw[ae]at e;cases e;exact new
  ·rw[ai hb]at e;refine(I.bH b u e).rE (fun _ _ _ q=>q) (fun c q=>?_) fun c xs q=>?_
   ·rw[ai (ne _ _ q)];exact q
   ·rw[ai (ne _ _ q)];exact q
theorem C6.tracked(f:C6 X pins σ H s ea C B a0):Inv X pins σ (upd H ea (.exc ea C)) s:=by
 obtain⟨h1,h2,h3,h4,h5⟩:=f.fresh;have I:=f.inv;obtain⟨Hp,sp,_,os,bare,un,hB,kB,tB,st,en,ff,⟨o,e1,e2⟩,_⟩:=f;exact I.MS h1 h2 h3 h4 h5 ⟨⟨o,e1,e2⟩,⟨o,e1⟩,fun a b ⟨o',q1,q2⟩ k=>⟨o',k o' q1,q2⟩⟩
theorem iw{M:Model}{A:Around}{E:Value→Shared→Prop}{i:Nat}{n:Str}{pos:Pos}{Q:Unit→Shared→Prop}(I:Inv X pins σ H s)(hN:X.N.Nodup)(hi:X.N[i]?=some n)(hk:X.env.scope.names.lookup n=some .local)
  (h:∀s',Inv X pins (σ.set i none) H s'→Q () s'):wpAny M A (do bindName X.env n .none;unbindBehindTheSuite X.env n pos) Q E s:=by
 obtain⟨m,hn,hl⟩:=id I.loc;have Ja:(X.env.scope.kind== .class||(X.env.scope.kind== .module&&X.env.locals !=X.env.globals))=false:=by rw[I.ok.kind];rfl
 have FC:i<σ.length:=by rw[I.len];exact(Y' hi).1
 have Ct:=I.Ct;refine wpAny_nameGoes_keeps hk hn Ja fun h' v A4 hs=>?_
 obtain⟨oL,_,_,Cu,_⟩:=id hn;refine h _ ⟨I.ok,I.os,I.bare,⟨fun b o e n hb hx=>?_,fun b o e n hb hx=>?_,I.base.free,fun b o e hx=>?_,I.base.cw,I.base.kM,I.base.mM⟩,⟨_,A4,fun j y v' e1 e2 e3=>?_⟩,fun y c e=>?_,I.free,I.ip,fun p hp=>?_,fun b ob e=>?_,by simpa using I.len⟩
 ·exact(hs.2 b (Nat.ne_of_lt (Nat.lt_of_lt_of_le (Heap.lt_size e) I.ok.above))).trans (I.base.keep b o e n hb hx)
 ·obtain⟨sl,e1⟩:=I.base.slot b o e n hb hx;exact⟨sl,(hs.2 b (Nat.ne_of_lt (Nat.lt_of_lt_of_le (Heap.lt_size e) I.ok.above))).trans e1⟩
 ·obtain⟨o',e1⟩:=I.base.there b o e hx;exact⟨o',(hs.2 b (Nat.ne_of_lt (Nat.lt_of_lt_of_le (Heap.lt_size e) I.ok.above))).trans e1⟩
 ·by_cases hj:j=i
  ·subst hj;rw[List.getElem?_set_self FC]at e2;cases e2
  ·rw[List.getElem?_set_ne (Ne.symm hj)]at e2;obtain⟨u',r',q⟩:=hl j y v' e1 e2 e3;refine⟨u',r',?_⟩;rcases q with⟨k,e⟩|⟨k,c,e,z⟩
   ·refine .inl ⟨k,?_⟩;have:y≠n:=fun e=>hj (rG hN e1 (e▸hi))
    simp[this,e]
   ·exact .inr ⟨k,c,e,z.sameBut hs (Ct y c e)⟩
 ·obtain⟨w',z⟩:=I.cell y c e;exact⟨w',z.sameBut hs (Ct y c e)⟩
 ·obtain⟨e,n,ne,nf,d⟩:=I.pin p hp;exact⟨(hs.2 p.1 ne).trans e,n,ne,nf,d⟩
 ·refine(I.bH b ob e).rE (fun c w' hc q=>(hs.2 c ?_).trans q) (fun _ q=>q) fun _ _ q=>q
  rintro rfl;rcases hc with rfl|hc
  ·rw[I.free]at e;cases e
  ·rw[I.free]at hc;cases hc
end
abbrev TH:=Addr→TS
def PH(X:Cx)(hs:List ExceptHandler)(t:TH):Prop:=
 ∀(pins:List (Addr×Obj))(s:Shared)(σ:St)(H:Hp)(D:Ends)(ea C:Addr)(B:Heap)(a0:Value),C6 X pins σ H s ea C B a0→Heap.FlyingW B X.stack ea (.ref C) a0 s.heap→t C D σ H→
  wpAny (model X.prog X.w) X.A (handleBy (.ref ea) X.env hs) (SP X pins D) X.xe s
def Ends.drop(D:Ends)(i:Nat):Ends:={nx:=fun σ H=>D.nx (σ.set i none) H,rt:=D.rt,bk:=fun σ H=>D.bk (σ.set i none) H,ct:=fun σ H=>D.ct (σ.set i none) H}
def VN(K:Frag)(Dc:Addr)(i:Nat)(ts:TS)(tr:TH):TH:=fun C D σ H=>∃b,mroIn K C (.ref Dc)=some b∧
 if b=true then ∀ea,H ea=none→ts (D.drop i) (σ.set i (some (.ref ea))) (upd H ea (.exc ea C))else tr C D σ H
def JJ:TH:=fun _ _ _ _=>False
section
variable{X:Cx}{x n:Str}{np pos:Pos}{b0:Stmt}{ky:List Stmt}{rest:List ExceptHandler}{ts:TS}{tr:TH}{Dc:Addr}{i:Nat}
theorem C7{hs:List ExceptHandler}:PH X hs JJ:=fun _ _ _ _ _ _ _ _ _ _ _ h=>h.elim
theorem MT(hg:Gl X x)(hm:X.mg x=some (.ref Dc))(c:qJ X.K Dc)(hN:X.N.Nodup)(hi:X.N[i]?=some n)(hk:X.env.scope.names.lookup n=some .local)(hs:∀ea,yy (X.ky ea) (b0::ky) ts)(hr:PH X rest tr)
  (tT:(x==("__debug__":Str))=false:=by decide):PH X (.ExceptHandler (some (.Name x np)) (some n) (b0::ky) pos::rest) (VN X.K Dc i ts tr):=by
 intro pins s σ H D ea C B a0 f fl h;obtain⟨b,hb,h⟩:=h;have I:=f.inv;have ex:ExcAt ea C s.heap:=by obtain⟨_,_,_,_,_,_,_,_,_,_,_,_,ex,_⟩:=f;exact ex
 refine wpAny_handleBy_cons (codeAny_handlers_test (lK (I.ky ea) hg hm (rV I.nI ex c hb ?_) tT)) (by intro q;cases q);cases b with
 |false=>exact hr pins s σ H D ea C B a0 f fl h
 |true=>
  refine codeAny_handlers_suite_as ?_;refine lands_againW fl fun h6 VO VP=>?_
  have f6:=f.turn VO VP;have I6:=f6.tracked;have VQ:=f6.fresh.1;refine rH (v:= .ref ea) I6 hN hi (.inl hk) rfl (fun s7 I7=>?_) (.inr hk);refine wpAny_mono (hs ea pins s7 _ _ (D.drop i) (I7.ky ea) (h ea VQ)) (fun fl s8 q=>?_) fun _ _ z=>False.elim z
  cases fl with
  |next=>
   obtain⟨a7,H',I8,q⟩:=q;exact iw (I8.rk I.ok) hN hi hk fun s9 I9=>⟨_,H',I9,q⟩
  |brk=>
   obtain⟨a7,H',I8,q⟩:=q;exact iw (I8.rk I.ok) hN hi hk fun s9 I9=>⟨_,H',I9,q⟩
  |cont=>
   obtain⟨a7,H',I8,q⟩:=q;exact iw (I8.rk I.ok) hN hi hk fun s9 I9=>⟨_,H',I9,q⟩
  |ret u=>
   obtain⟨v,a7,H',I8,r,q⟩:=q;exact iw (I8.rk I.ok) hN hi hk fun s9 I9=>⟨v,_,H',I9,r,q⟩
abbrev Cx.nM(X:Cx)(pn:List (Addr×Obj))(xe:Value→Shared→Prop):Cx:={X with pn:=pn,xe:=xe}
theorem Cx.Ok.nM{X:Cx}(ok:X.Ok)(pn:List (Addr×Obj))(xe:Value→Shared→Prop):(X.nM pn xe).Ok:=
 ⟨ok.mod,ok.kind,ok.glob,ok.blt,ok.above,ok.inj,ok.has,ok.L6,ok.hd,ok.frames,ok.OA,ok.SX,ok.bs,ok.Fz,ok.Cs,ok.FA,ok.qH,ok.I_⟩
theorem Inv.nM{pins:List (Addr×Obj)}{σ:St}{H:Hp}{s:Shared}(I:Inv X pins σ H s)(xe:Value→Shared→Prop):Inv (X.nM (X.pn++pins) xe) [] σ H s:=
 ⟨I.ok.nM _ xe,I.os,I.bare,I.base,I.loc,I.cell,I.free,I.ip,fun p hp=>I.pin p (by simpa using hp),I.bH,I.len⟩
theorem Inv.nN{pins wZ:List (Addr×Obj)}{σ:St}{H:Hp}{s:Shared}{xe:Value→Shared→Prop}(ok:X.Ok)(I:Inv (X.nM (X.pn++pins) xe) wZ σ H s):Inv X pins σ H s:=
 ⟨ok,I.os,I.bare,I.base,I.loc,I.cell,I.free,I.ip,fun p hp=>I.pin p (List.mem_append_left _ hp),I.bH,I.len⟩
def QO(tb:(St→XK)→TS)(th:TH):TS:=fun D σ H=>∃E:St→XK,tb E D σ H∧∀a7 cls od H',E a7 cls od H'→∃C,cls= .ref C∧th C D a7 H'
theorem JK{body:List Stmt}{h0:ExceptHandler}{tb:(St→XK)→TS}{th:TH}(JF:X.stack=X.env::X.outer)(hf:X.env.frame=some X.env.locals)
  (hb:∀(E:St→XK)(pn:List (Addr×Obj))(xe:Value→Shared→Prop),Passes (dD X.prog X.w) (X.nM pn xe) E→PassesOwn (model X.prog X.w) X.A X.env xe→yy (X.nM pn xe) body (tb E)) (hh:PH X (h0::rest) th):PS X (.Try body (h0::rest) [] [] pos) (QO tb th):=by
 intro pins s σ H D I h;obtain⟨E,h1,h2⟩:=h;refine wpAny_Try_except ?_;have key:∀(a7:St)(H':Hp)(s':Shared)(e:Value)(s2:Shared),Inv X pins a7 H' s'→dD X.prog X.w X.stack H' s' (E a7) e s2→wpAny (model X.prog X.w) X.A (noteFrame e X.env) (fun _ s3=>wpAny (model X.prog X.w) X.A (setFlight e none) (fun _ s4=>wpAny (model X.prog X.w) X.A (handleBy e X.env (h0::rest)) (SP X pins D) X.xe s4) X.xe s3) X.xe s2:=by
  rintro a7 H' s' e s2 I' ⟨ea,cls,a0,B,H2,rfl,os,bare,fl,un,hB,kB,tB,hE⟩;obtain⟨C,rfl,ht⟩:=h2 _ _ _ _ hE;obtain⟨ob,q1,q2⟩:=fl.there;obtain⟨oe,vs,q3,_,q4,_⟩:=fl.first;have f:C6 X pins a7 H2 s2 ea C B a0:=⟨H',s',I',os,bare,un,hB,kB,tB,fl.1,fl.2.1,fl.2.2.1,⟨ob,q1,q2⟩,oe,vs,q3,q4⟩
  have QP:X.A.frames=some (X.env::X.outer):=by rw[I'.ok.frames,JF]
  rw[JF]at fl;refine wpAny_looks_onW QP hf fl fun h4 MU VR=>?_
  refine wpAny_landsW MU fun h5 QR VS=>?_
  rw[←JF]at QR;exact hh pins _ a7 H2 D ea C B a0 (f.turn QR (VR.trans VS)) QR ht
 have ok:=I.ok;refine wpAny_mono (hb E (X.pn++pins) _ (fun wZ a7 H' s' e s2 I' hx=>key a7 H' s' e s2 (I'.nN ok) hx) PassesOwn.looking [] s σ H D (I.nM _) h1) (fun f s2 q=>?_) fun e s2 q=>q
 cases f with
 |next=>obtain⟨a7,H',I8,q⟩:=q;exact wpAny_execs_nil ⟨a7,H',I8.nN ok,q⟩
 |brk=>obtain⟨a7,H',I8,q⟩:=q;exact⟨a7,H',I8.nN ok,q⟩
 |cont=>obtain⟨a7,H',I8,q⟩:=q;exact⟨a7,H',I8.nN ok,q⟩
 |ret u=>obtain⟨v,a7,H',I8,r,q⟩:=q;exact⟨v,a7,H',I8.nN ok,r,q⟩
end
def fz(env:Env):List (Str×NameKind)→List (Str×Addr)→List (Str×Addr)
 |[],acc=>acc
 |(n,k)::r,acc=>if k= .free then fz env r ((n,(env.cells.lookup n).getD 0)::acc)else fz env r acc
theorem vq{env:Env}{scope:Scope}(h:∀x∈scope.names,x.2= .free→∃c,env.cells.lookup x.1=some c):closureFor scope env=pure (fz env scope.names []):=by
 unfold closureFor
 suffices H:∀(l:List (Str×NameKind))(acc:List (Str×Addr)),(∀x∈l,x.2= .free→∃c,env.cells.lookup x.1=some c)→
   (forIn l acc fun(x:Str×NameKind)(cs:List (Str×Addr))=>if (x.2==NameKind.free)=true then do let c←cellOf env x.1;pure (ForInStep.yield ((x.1,c)::cs))else pure (ForInStep.yield cs):Sem (List (Str×Addr)))=pure (fz env l acc) by
  have:=H scope.names [] h;simpa using this
 intro l
 induction l with
 |nil=>intro acc _;rfl
 |cons x r ih=>
  intro acc hl;obtain⟨n,k⟩:=x;rw[List.forIn_cons];by_cases hk:k= .free
  ·subst hk;obtain⟨c,hc⟩:=hl (n, .free) List.mem_cons_self rfl;have Jb:env.cells.lookup n=some c:=hc;simp only[beq_self_eq_true,if_true,cellOf,Jb,fz,Option.getD_some];show(pure _>>=_)=_;rw[pure_bind];exact ih _ fun y hy=>hl y (List.mem_cons_of_mem _ hy)
  ·have hb:(k==NameKind.free)=false:=by simpa using hk
   simp only[hb,Bool.false_eq_true,if_false,fz,hk];rw[pure_bind];exact ih _ fun y hy=>hl y (List.mem_cons_of_mem _ hy)
theorem jI{env:Env}{x:Str}{c:Addr}:∀{l:List (Str×NameKind)}{acc:List (Str×Addr)},(∀y∈l,y.2= .free→∃c,env.cells.lookup y.1=some c)→
  (∀y d,acc.lookup y=some d→env.cells.lookup y=some d)→(fz env l acc).lookup x=some c→env.cells.lookup x=some c
 |[],acc,_,ha,h=>ha x c h
 |(n,k)::r,acc,hl,ha,h=>by
  unfold fz at h;have hr:∀y∈r,y.2= .free→∃c,env.cells.lookup y.1=some c:=fun y hy=>hl y (List.mem_cons_of_mem _ hy)
  split at h
  ·rename_i hk
   obtain⟨d,hd⟩:=hl (n,k) List.mem_cons_self hk;refine jI hr (fun y e he=>?_) h;rw[List.lookup_cons]at he;split at he
   ·rename_i q
    have q':y=n:=by simpa using q
    subst q';have yo:env.cells.lookup y=some d:=hd;rw[yo,Option.getD_some]at he;cases he;exact yo
   ·exact ha y e he
  ·exact jI hr ha h
theorem nO{env:Env}{x:Str}:∀{l:List (Str×NameKind)}{acc:List (Str×Addr)},((x,NameKind.free)∈l∨∃c,acc.lookup x=some c)→∃c,(fz env l acc).lookup x=some c
 |[],acc,h=>by
  rcases h with h|h
  ·simp at h
  ·exact h
 |(n,k)::r,acc,h=>by
  unfold fz;split
  ·rename_i hk
   refine nO ?_;rcases h with h|⟨c,h⟩
   ·rcases List.mem_cons.mp h with e|e
    ·injection e with e1 e2;subst e1;exact .inr ⟨(env.cells.lookup x).getD 0,by simp[List.lookup_cons]⟩
    ·exact .inl e
   ·by_cases q:x=n
    ·subst q;exact .inr ⟨(env.cells.lookup x).getD 0,by simp[List.lookup_cons]⟩
    ·refine .inr ⟨c,?_⟩;rw[List.lookup_cons];have:(x==n)=false:=by simpa using q
     rw[this];exact h
  ·rename_i hk
   refine nO ?_;rcases h with h|h
   ·rcases List.mem_cons.mp h with e|e
    ·injection e with e1 e2;exact absurd e2.symm hk
    ·exact .inl e
   ·exact .inr h
theorem nP{env:Env}{x:Str}:∀{names:List (Str×NameKind)},names.lookup x=some .free→
  (names.map fun(n,k)=>if (k==NameKind.free&&env.scope.kind== .function&&env.kindOf n==some .cell)then(n,NameKind.cell)else(n,k)).lookup x=some .cell∨
  (names.map fun(n,k)=>if (k==NameKind.free&&env.scope.kind== .function&&env.kindOf n==some .cell)then(n,NameKind.cell)else(n,k)).lookup x=some .free
 |[],h=>by simp at h
 |(n,k)::r,h=>by
  have ih:=@nP env x r;show List.lookup x ((if (k==NameKind.free&&env.scope.kind== .function&&env.kindOf n==some .cell)=true then(n,NameKind.cell)else(n,k))::_)=_∨List.lookup x ((if (k==NameKind.free&&env.scope.kind== .function&&env.kindOf n==some .cell)=true then(n,NameKind.cell)else(n,k))::_)=_;rw[List.lookup_cons]at h;by_cases hc:(k==NameKind.free&&env.scope.kind== .function&&env.kindOf n==some .cell)=true
  ·rw[Zi hc,List.lookup_cons];cases hx:x==n with
   |true=>exact .inl rfl
   |false=>rw[hx]at h;exact ih h
  ·rw[Ze hc,List.lookup_cons];cases hx:x==n with
   |true=>rw[hx]at h;exact .inr h
   |false=>rw[hx]at h;exact ih h
theorem nQ{env:Env}{x:Str}:∀{names:List (Str×NameKind)},(∀y∈names,y.2≠ .cell)→
  ((names.map fun(n,k)=>if (k==NameKind.free&&env.scope.kind== .function&&env.kindOf n==some .cell)then(n,NameKind.cell)else(n,k)).lookup x=some .cell∨
  (names.map fun(n,k)=>if (k==NameKind.free&&env.scope.kind== .function&&env.kindOf n==some .cell)then(n,NameKind.cell)else(n,k)).lookup x=some .free)→(x,NameKind.free)∈names
 |[],_,h=>by simp at h
 |(n,k)::r,hc,h=>by
  have ih:=@nQ env x r fun y hy=>hc y (List.mem_cons_of_mem _ hy)
  have h2:List.lookup x ((if (k==NameKind.free&&env.scope.kind== .function&&env.kindOf n==some .cell)=true then(n,NameKind.cell)else(n,k))::_)=_∨List.lookup x ((if (k==NameKind.free&&env.scope.kind== .function&&env.kindOf n==some .cell)=true then(n,NameKind.cell)else(n,k))::_)=_:=h;clear h;by_cases hq:(k==NameKind.free&&env.scope.kind== .function&&env.kindOf n==some .cell)=true
  ·rw[Zi hq,List.lookup_cons]at h2;cases hx:x==n with
   |true=>
    have e:x=n:=by simpa using hx
    subst e;have hk:k= .free:=by
     rw[Bool.and_eq_true,Bool.and_eq_true]at hq;simpa using hq.1.1
    subst hk;exact List.mem_cons_self
   |false=>rw[hx]at h2;exact List.mem_cons_of_mem _ (ih h2)
  ·rw[Ze hq,List.lookup_cons]at h2;cases hx:x==n with
   |true=>
    rw[hx]at h2;have e:x=n:=by simpa using hx
    subst e;rcases h2 with h|h
    ·have h':some k=some NameKind.cell:=h;exact absurd (Zp h') (hc (x,k) List.mem_cons_self)
    ·have h':some k=some NameKind.free:=h;rw[Zp h'];exact List.mem_cons_self
   |false=>rw[hx]at h2;exact List.mem_cons_of_mem _ (ih h2)
def fR(X:Cx)(scope:Scope)(N:List Str)(cL:Shared)(eD:Hp)(C:Addr)(fp:List Addr)(pn:List (Addr×Obj)):Cx:=
 {X with N:=N,cL:=cL,eD:=eD,env:=compEnvC scope (fz X.env scope.names []) C X.env,outer:=X.stack,ex:=fp,fn:=fun _=>false,pn:=pn,xe:=fun _ _=>False}
structure ba(N:List Str)(sc:Scope)(scope:Scope)(ls:List Str)(js:List Nat)(cs:List Str):Prop where
 kind:scope.kind= .function
 HM:∀x∈scope.names,x.2≠ .cell
 names:∀x∈scope.names,x.2= .local→scope.names.lookup x.1=some .local
 loc:∀x∈ls,scope.names.lookup x=some .local
 at_:cs=js.filterMap (N[·]?)
 len:cs.length=js.length
 QS:∀x∈cs,scope.names.lookup x=some .free∧(sc.names.lookup x=some .cell∨sc.names.lookup x=some .free)
 free:∀x∈scope.names,x.2= .free→(sc.names.lookup x.1=some .cell∨sc.names.lookup x.1=some .free)
 nd:(ls++cs).Nodup
section
variable{X:Cx}{pins:List (Addr×Obj)}{σ:St}{H:Hp}{s:Shared}{scope:Scope}{ls cs:List Str}{js:List Nat}{fp:List Addr}
theorem ba.has(S:ba X.N X.env.scope scope ls js cs)(ok:X.Ok):∀x∈scope.names,x.2= .free→∃c,X.env.cells.lookup x.1=some c:=fun x hx hf=>ok.has x.1 (S.free x hx hf)
def kX(ls:List Str)(js:List Nat)(σ:St):St:=ls.map (fun _=>none)++js.map fun j=>(σ[j]?).join
theorem Gb(S:ba X.N X.env.scope scope ls js cs)(I:Inv X pins σ H s)(hf:∀b∈fp,ic X pins H b)(hl:∀b∈fp,b<s.heap.objs.size):(fR X scope (ls++cs) s H s.heap.objs.size fp (X.pn++pins)).Ok:=by
 have rW:∀{x:Str}{c:Addr},(fz X.env scope.names []).lookup x=some c→X.env.cells.lookup x=some c:=fun{x c} h=>jI (S.has I.ok) (fun y d h=>by simp at h) h
 refine⟨I.ok.mod,S.kind,I.ok.glob,I.ok.blt,Nat.le_refl _,fun x y c h1 h2=>I.ok.inj x y c (rW h1) (rW h2),fun x h=>nO (.inl (nQ S.HM h)),(fun x c h=>Bool.noConfusion (show false=true from h)),I.ok.hd,I.ok.frames, .inl rfl,fun b hb=>⟨Nat.ne_of_lt (hl b hb),fun x c h=>(hf b hb).2.2.2.2.1 x c (rW h)⟩,
  I.bs,Nat.le_trans I.ok.Fz I.sz,fun b o e hb=>?_,fun b hb hm=>?_,I.stack,I.vc⟩
 ·rcases(hf b hb).2.2.2.1 with z|z
  ·exact I.ok.Cs b o e z
  ·exact absurd (Nat.lt_of_lt_of_le (Heap.lt_size e) I.ok.Fz) (Nat.not_lt.mpr z)
 ·rcases List.mem_cons.mp (I.rF b hm)with z|z
  ·exact(hf b hb).2.1 z
  ·exact(hf b hb).2.2.1 z
theorem C8{h1:Heap}{m:Str→Option Value}(S:ba X.N X.env.scope scope ls js cs)(I:Inv X pins σ H s)(hf:∀b∈fp,ic X pins H b)(hl:∀b∈fp,b<s.heap.objs.size)
  (hn:h1.Ns s.heap.objs.size m) (hk:∀b o,s.heap.get? b=some o→h1.get? b=some o):
  Inv (fR X scope (ls++cs) s H s.heap.objs.size fp (X.pn++pins)) [] (kX ls js σ) H {s with heap:=h1}:=by
 have rW:∀{x:Str}{c:Addr},(fz X.env scope.names []).lookup x=some c→X.env.cells.lookup x=some c:=fun{x c} h=>jI (S.has I.ok) (fun y d h=>by simp at h) h
 have len:(kX ls js σ).length=(ls++cs).length:=by
  unfold kX;rw[List.length_append,List.length_append,List.length_map,List.length_map,S.len]
 refine⟨Gb S I hf hl,rfl,I.bare,Un.kept hk,⟨m,hn,fun i x v e1 e2 e3=>?_⟩,fun x c e=>?_,I.bH.fresh (Nat.le_refl _),fun x c e=>I.ip x c (rW e),fun p hp=>?_,I.bH.kept hk,len⟩
 ·have e1:(ls++cs)[i]?=some x:=e1;unfold kX at e2;by_cases hi:i<ls.length
  ·rw[List.getElem?_append_left (by simpa using hi),List.getElem?_map]at e2;cases q:ls[i]? with
   |none=>rw[q]at e2;cases e2
   |some y=>rw[q]at e2;cases e2
  ·have wQ:ls.length≤i:=Nat.not_lt.mp hi;rw[List.getElem?_append_right (by simpa using wQ),List.getElem?_map,List.length_map]at e2;rw[List.getElem?_append_right wQ]at e1;obtain⟨To,qK⟩:=S.QS x (Zd e1);cases q:js[i-ls.length]? with
   |none=>rw[q]at e2;cases e2
   |some j=>
    rw[q]at e2;have e2:(σ[j]?).join=some v:=Zp e2;have eN:X.N[j]?=some x:=by
     have aux:∀(js:List Nat)(cs:List Str)(i:Nat),cs=js.filterMap (X.N[·]?)→cs.length=js.length→∀j x,js[i]?=some j→cs[i]?=some x→X.N[j]?=some x:=by
      intro js
      induction js with
      |nil=>intro cs i _ _ j x hj _;simp at hj
      |cons a r ih=>
       intro cs i he hl j x hj hx;rw[List.filterMap_cons]at he;cases qa:X.N[a]? with
       |none=>
        rw[qa]at he;have hle:=List.length_filterMap_le (X.N[·]?) r;simp only at he;rw[he,List.length_cons]at hl
        lia
       |some y=>
        rw[qa]at he;simp only at he;subst he;cases i with
        |zero=>
         simp at hj hx;subst hj hx;exact qa
        |succ i=>exact ih _ i rfl (by simpa using hl) j x (by simpa using hj) (by simpa using hx)
     exact aux js cs _ S.at_ S.len j x q e1
    obtain⟨mX,_,VT⟩:=I.loc;have VU:σ[j]?=some (some v):=by
     cases z:σ[j]? with
     |none=>rw[z]at e2;cases e2
     |some w=>rw[z]at e2;rw[show w=some v from e2]
    obtain⟨u,r,l⟩:=VT j x v eN VU (qK.elim (fun z=> .inr (.inl z)) fun z=> .inr (.inr z));refine⟨u,r,?_⟩;rcases l with⟨z,_⟩|⟨_,c,z1,o,z2,z3⟩
    ·have z:X.env.scope.names.lookup x=some .local:=z;rcases qK with w|w<;>(rw[z]at w;cases w)
    ·refine .inr ⟨nP To,c,?_,o,hk c o z2,z3⟩;obtain⟨c',Jb⟩:=nO (env:=X.env) (l:=scope.names) (acc:=[]) (x:=x) (.inl (PySem.mem_of_lookup To));have:=rW Jb;rw[z1]at this;cases this;exact Jb
 ·obtain⟨v,o,z1,z2⟩:=I.cell x c (rW e);exact⟨v,o,hk c o z1,z2⟩
 ·have hp:p∈X.pn++pins:=by simpa[fR]using hp
  obtain⟨e,n,ne,nf,d⟩:=I.pin p hp;refine⟨hk _ _ e,n,Nat.ne_of_lt (Heap.lt_size e),fun hm=>?_,d⟩;rcases List.mem_cons.mp (I.rF p.1 hm)with z|z
  ·exact ne z
  ·exact nf z
end
section
variable{prog:Program}{w:World}{A:Around}{R:Result→Shared→Prop}{s:Shared}
theorem vt{elt target iter:Expr}{ifs:List Expr}{scope:Scope}{pos:Pos}{it acc:Value}{env:Env}(L:Nat→Shared→Prop)
  (turn:∀n s,L n s→wpAny (model prog w) A (pyNext it) (fun r bW=>match r with
   |none=>R (.ok .next) bW
   |some v=>wpAny (model prog w) A (letOwnedTupleGo target it v) (fun _ HN=>wpAny (model prog w) A (assign target env v) (fun _ pA=>
     wpAny (model prog w) A (forIn ifs true fun c r=>if r=true then do let ok←isTrue c env (eval c env);pure (ForInStep.yield ok)else pure (ForInStep.yield r)) (fun ok Bi=>
      if ok=true then wpAny (model prog w) A (eval elt env) (fun x MV=>
       wpAny (model prog w) A (call (.builtin "list.append") [acc,x]) (fun _ MW=>∃m,m<n∧L m MW) (fun _ _=>False) MV) (fun _ _=>False) Bi
      else ∃m,m<n∧L m Bi) (fun _ _=>False) pA) (fun _ _=>False) HN) (fun _ _=>False) bW) (fun _ _=>False) s)
  (n:Nat) (h:L n s):codeAny (model prog w) A (.compLoop (.ListComp elt [⟨target,iter,ifs,0⟩] scope pos) 0 it acc env) R s:=by
 refine codeAny_loop rfl L (fun n s hI=>?_) n h;show wpAny _ A ((compTurn (.ListComp elt [⟨target,iter,ifs,0⟩] scope pos) 0 it acc env).onRaise (fun x=>do noteFrame x env;theTreesLotGoes x)) _ _ s;refine wpAny_noted ?_;rw[compTurn_list];refine wpAny_mono (E:=fun _ _=>False) ?_ (fun _ _ q=>q) fun _ _ z=>False.elim z
 refine wpAny_bind (wpAny_standAt (wpAny_bind (wpAny_mono (turn n s hI) (fun r bW Bh=>?_) fun _ _ h'=>h')));cases r with
 |none=>exact wpAny_pure Bh
 |some v=>
  refine wpAny_bind (wpAny_mono Bh (fun _ HN Bh=>?_) fun _ _ h'=>h');refine wpAny_bind (wpAny_mono Bh (fun _ pA CM=>wpAny_bind (wpAny_mono CM (fun ok Bi FX=>?_) fun _ _ h'=>h')) fun _ _ h'=>h');cases ok with
  |false=>exact wpAny_pure ⟨rfl,FX⟩
  |true=>
   exact wpAny_bind (wpAny_bind (wpAny_mono FX (fun x MV QT=>wpAny_bind (wpAny_mono QT (fun _ MW QU=>wpAny_pure (wpAny_pure ⟨rfl,QU⟩)) fun _ _ h'=>h')) fun _ _ h'=>h'))
end
def MY(X:Cx)(ifs:List Expr)(t:TT):Prop:=
 ∀(pins:List (Addr×Obj))(s:Shared)(σ:St)(H:Hp)(Q:Bool→Hp→Prop),Inv X pins σ H s→t σ H Q→
  wpAny (model X.prog X.w) X.A (forIn ifs true fun c r=>if r=true then do let ok←isTrue c X.env (eval c X.env);pure (ForInStep.yield ok)else pure (ForInStep.yield r)) (TP X pins σ Q) X.xe s
def JL:TT:=fun _ H Q=>Q true H
theorem fq{X:Cx}:MY X [] JL:=fun _ _ _ H _ I h=>wpAny_tests_nil ⟨H,I,h⟩
theorem z9{X:Cx}{c:Expr}{t:TT}(h:PT X c t):MY X [c] t:=fun pins s σ H Q I hq=>wpAny_tests_one (h pins s σ H Q I hq)
def rX(J:It)(ls:List Str)(js:List Nat)(g:TG)(tt:TT)(te:TE)(σ:St)(H1:Hp)(D:Addr)(Q:VK):Prop:=
 ∃W:Nat→Nat→List V→St→Hp→Prop,(∃m,W 0 m [] (kX ls js σ) (upd H1 D (.lst [])))∧∀i m ys a7 H',W i m ys a7 H'→
 (J.stop i H'∧Q (.ref D) H')∨(J.go i H'∧∃N:List V→St→Hp→Prop,(∀HP fm H2,N HP fm H2→∃m',m'<m∧W (i+1) m' HP fm H2)∧∀x H2,J.FF i H' x H2→g x a7 H2 fun fm H3=>tt fm H3 fun b H4=>
  if b=true then te fm H4 fun y H5=>H5 D=some (.lst ys)∧ys.length<sizeLine∧N (ys++[y]) fm (upd H5 D (.lst (ys++[y])))else N ys fm H4)
def C9(wi:TI)(ls:List Str)(js:List Nat)(g:TG)(tt:TT)(te:TE):TE:=fun σ H Q=>wi σ H fun J H1=>∀D,H1 D=none→rX J ls js g tt te σ H1 D Q
section
variable{X:Cx}{tg iter elt:Expr}{ifs:List Expr}{scope:Scope}{pos:Pos}{wi:TI}{g:TG}{tt:TT}{te:TE}{ls cs:List Str}{js:List Nat}
theorem uM{pins:List (Addr×Obj)}{s:Shared}{σ:St}{H:Hp}{Q:VK}{use:Option (Value→Sem Unit)}{QQ:Value→Shared→Prop}(hc:X.calm=true)(S:ba X.N X.env.scope scope ls js cs)(hi:PI X tg iter wi)
  (hg:∀cL eD C fp pn,PG (fR X scope (ls++cs) cL eD C fp pn) tg g) (ht:∀cL eD C fp pn,MY (fR X scope (ls++cs) cL eD C fp pn) ifs tt) (he:∀cL eD C fp pn,PE (fR X scope (ls++cs) cL eD C fp pn) elt te)
  (I:Inv X pins σ H s) (h:C9 wi ls js g tt te σ H Q)
  (QV:∀(D C:Addr)(H':Hp)(s':Shared)(m:Str→Option Value),Inv X pins σ H' s'→Q (.ref D) H'→s'.heap.Ns C m→ic X pins H' C→compPost (model X.prog X.w) X.A X.xe use QQ (.ref D) C (.ok .next) s')
  (hs:∀x,foldedSetIterable iter X.env x=pure x:=by intro _;rfl):
  wpAny (model X.prog X.w) X.A (comprehension (.ListComp elt [⟨tg,iter,ifs,0⟩] scope pos) scope X.env (firstIterPos [⟨tg,iter,ifs,0⟩] pos) (newList []) false (eval iter X.env) use) QQ X.xe s:=by
 refine wpAny_comprehension_free rfl hs (vq (S.has I.ok)) S.kind S.names (cz (hi pins s σ H _ I h) fun v s1 h1=>cz h1 fun Qo s2 h2=>?_);obtain⟨it,fp,tn,J,H2,rfl,I2,T,dC,f2,hW⟩:=h2;have Tp:∀b∈fp,b<s2.heap.objs.size:=fun b hb=>by
  obtain⟨o,e,_⟩:=T.obj 0 _ dC b hb;exact Heap.lt_size e
 refine wpAny_newObj_type ?_;have hD:H2 s2.heap.objs.size=none:=I2.bH.fresh (Nat.le_refl _);obtain⟨W,⟨m0,w0⟩,turn⟩:=hW _ hD;have I3:Inv X pins σ (upd H2 s2.heap.objs.size (.lst [])) {s2 with heap:=s2.heap.push {cls:= .type "list",dict:=none,data:= .seq ([]:List Value).toArray}}:=
  I2.laid (t':=s2.toks) (fun b u e=>Zj e) (Nat.le_refl _) ⟨Nat.zero_le _,[],0, .nil,Heap.get?_push_size _ rfl⟩
 have f3:∀b∈fp,ic X pins (upd H2 s2.heap.objs.size (.lst [])) b:=fun b hb=>⟨by rw[ai (Nat.ne_of_lt (Tp b hb))];exact(f2 b hb).1,(f2 b hb).2⟩
 generalize Yu:upd H2 s2.heap.objs.size (.lst [])=H3 at I3 f3 w0;generalize Tq:({s2 with heap:=s2.heap.push {cls:= .type "list",dict:=none,data:= .seq ([]:List Value).toArray}}:Shared)=s3 at I3;have Tr:∀b∈fp,b<s3.heap.objs.size:=fun b hb=>by
  rw[←Tq];show b<(s2.heap.push _).objs.size;rw[Heap.size_push];exact Nat.lt_succ_of_lt (Tp b hb)
 have Cz:tn 0 s3.heap:=T.keep 0 _ _ dC fun b hb o e=>by rw[←Tq];exact Zj e
 refine wpAny_newFunctionEnv S.HM (by intro y hy;simp at hy) (fun h4 OI MZ=>?_) S.kind;have k4:∀b o,s3.heap.get? b=some o→h4.get? b=some o:=fun b o e=>MZ.extBut b o (Nat.ne_of_lt (Heap.lt_size e)) (Zj e)
 have I4:=C8 (h1:=h4) S I3 f3 Tr OI k4;have VV:=I4.tok (s3.toks+([]:List (Str×Value)).length);have OP:tn 0 h4:=T.keep 0 _ _ Cz fun b hb o e=>k4 b o e
 show codeAny (model X.prog X.w) X.A (.compStart (.ListComp elt [⟨tg,iter,ifs,0⟩] scope pos) 0 (.ref it) (.ref s2.heap.objs.size) (compEnvC scope (fz X.env scope.names []) s3.heap.objs.size X.env)) (compPost (model X.prog X.w) X.A X.xe use QQ (.ref s2.heap.objs.size) s3.heap.objs.size) _;have yA:∀{H':Hp},(∀b∈fp,H' b=none)→∀b∈fp,ic (fR X scope (ls++cs) s3 H3 s3.heap.objs.size fp (X.pn++pins)) [] H' b:=fun{H'} hn b hb=>by
  obtain⟨q1,q2,q3,q4,q5,q6⟩:=f3 b hb;refine⟨hn b hb,Nat.ne_of_lt (Tr b hb),fun hm=>?_, .inl hb,fun x c e=>q5 x c (jI (S.has I.ok) (fun y d z=>by simp at z) e),fun p hp=>q6 p (by simpa[fR]using hp)⟩;rcases List.mem_cons.mp (I3.rF b hm)with z|z
  ·exact q2 z
  ·exact q3 z
 have loop:codeAny (model X.prog X.w) X.A (.compLoop (.ListComp elt [⟨tg,iter,ifs,0⟩] scope pos) 0 (.ref it) (.ref s2.heap.objs.size) (compEnvC scope (fz X.env scope.names []) s3.heap.objs.size X.env)) (compPost (model X.prog X.w) X.A X.xe use QQ (.ref s2.heap.objs.size) s3.heap.objs.size)
   {s3 with heap:=h4,toks:=s3.toks+([]:List (Str×Value)).length}:=by
  refine vt (fun n s'=>∃i a7 H',Inv (fR X scope (ls++cs) s3 H3 s3.heap.objs.size fp (X.pn++pins)) [] a7 H' s'∧tn i s'.heap∧(∀b∈fp,H' b=none)∧∃ys,W i n ys a7 H') ?_ m0 ⟨0,_,_,VV,OP,fun b hb=>(f3 b hb).1,[],w0⟩;rintro n s5 ⟨i,OQ,H5,I5,Ll,OF,ys,w5⟩;rcases turn i n ys OQ H5 w5 with⟨stop,qn⟩|⟨go,N,hN,step⟩
  ·refine cz (T.done (fR X scope (ls++cs) s3 H3 s3.heap.objs.size fp (X.pn++pins)) rfl rfl rfl hc i [] s5 OQ H5 (fun _ _=>False) I5 (yA OF) Ll stop) fun r s6 ⟨hr,I6⟩=>?_
   subst hr;obtain⟨m,hm,_⟩:=id I6.loc;have un:Un (kN X.stack) fp H3 H5 s3.heap s6.heap:=I6.base;have I7:Inv X pins σ H5 s6:=I3.Ht (ch:=fp) I6.os un I6.bH I6.bare fun b hb=>by
    obtain⟨q1,q2,q3,q4,q5,q6⟩:=f3 b hb;exact⟨q4,q2,q5,q6⟩
   have fc:ic X pins H5 s3.heap.objs.size:=I3.tS (Nat.le_refl _) I6.free;exact QV _ _ H5 s6 m I7 qn hm fc
  ·refine cz (T.item (fR X scope (ls++cs) s3 H3 s3.heap.objs.size fp (X.pn++pins)) rfl rfl rfl hc i [] s5 OQ H5 (fun _ _=>False) I5 (yA OF) Ll go) fun r s6 ⟨u,hr,h6⟩=>?_
   subst hr;refine cz h6 fun _ s7 ⟨x,H7,I7,r7,y7,QW,VW⟩=>?_
   have VX:=I7.pinned (yA VW) (T.obj _ _ QW);refine cz (hg _ _ _ _ _ _ s7 OQ H7 x u _ VX r7 (step x H7 y7)) fun _ s8 ⟨OR,H8,I8,q8⟩=>?_
   refine cz (ht _ _ _ _ _ _ s8 OR H8 _ I8 q8) fun b s9 ⟨H9,I9,q9⟩=>?_
   have again:∀{HP:List V}{a7:St}{H':Hp}{s':Shared},Inv (fR X scope (ls++cs) s3 H3 s3.heap.objs.size fp (X.pn++pins)) ([]++rK fp s7.heap) a7 H' s'→N HP a7 H'→
     ∃m,m<n∧∃i a7 H',Inv (fR X scope (ls++cs) s3 H3 s3.heap.objs.size fp (X.pn++pins)) [] a7 H' s'∧tn i s'.heap∧(∀b∈fp,H' b=none)∧∃ys,W i m ys a7 H':=fun{HP a7 H' s'} I' n'=>by
    obtain⟨m',Bp,w'⟩:=hN HP a7 H' n';refine⟨m',Bp,i+1,a7,H',I'.kP,T.keep _ _ _ QW fun b hb o e=>(I'.pin (b,o) (List.mem_append_right _ (List.mem_append_right _ (gD hb e)))).1,fun b hb=>?_,HP,w'⟩;obtain⟨o,e,d⟩:=T.obj _ _ QW b hb;exact(I'.pin (b,o) (List.mem_append_right _ (List.mem_append_right _ (gD hb e)))).2.1
   cases b with
   |false=>exact again I9 q9
   |true=>
    refine cz (he _ _ _ _ _ _ s9 OR H9 _ I9 q9) fun u2 VY ⟨y,VZ,V1,V4,V5,hz,V6⟩=>?_
    refine cz (dh _ VY OR VZ (.ref s2.heap.objs.size) [y] (.ref s2.heap.objs.size) [u2] (fun _ H'=>N (ys++[y]) OR H') V1 rfl (.cons V4 .nil) ⟨_,ys,y,rfl,rfl,V5,hz,V6⟩) fun _ Yv ⟨_,Yw,V7,_,V8⟩=>?_
    exact again V7 V8
 exact codeAny_compStart_list loop (T.self _ 0 _ _ _ OP loop)
theorem gM(hc:X.calm=true)(S:ba X.N X.env.scope scope ls js cs)(hi:PI X tg iter wi)
  (hg:∀cL eD C fp pn,PG (fR X scope (ls++cs) cL eD C fp pn) tg g) (ht:∀cL eD C fp pn,MY (fR X scope (ls++cs) cL eD C fp pn) ifs tt) (he:∀cL eD C fp pn,PE (fR X scope (ls++cs) cL eD C fp pn) elt te)
  (hs:∀x,foldedSetIterable iter X.env x=pure x:=by intro _;rfl):PE X (.ListComp elt [⟨tg,iter,ifs,0⟩] scope pos) (C9 wi ls js g tt te):=by
 intro pins s σ H Q I h;rw[eval_ListComp];refine uM (use:=none) hc S hi hg ht he I h (fun D C H' s' m I' q hm fc=>⟨m,hm,fun h' MZ=>?_⟩) hs;obtain⟨q1,q2,q3,q4,q5,q6⟩:=fc;exact⟨.ref D,H',I'.turned (t':=s'.toks) (fun b o hb e=>MZ.extBut b o hb e) q1 (Ne.symm (Ne.symm q2)) q4 q5 q6,rfl,q⟩
theorem rm{x:Str}{i:Nat}{pos' M0:Pos}(hc:X.calm=true)(hN:X.N.Nodup)(wQ:X.N[i]?=some x)(hx:X.env.scope.names.lookup x=some .local)(S:ba X.N X.env.scope scope ls js cs)(hi:PI X tg iter wi)
  (hg:∀cL eD C fp pn,PG (fR X scope (ls++cs) cL eD C fp pn) tg g) (ht:∀cL eD C fp pn,MY (fR X scope (ls++cs) cL eD C fp pn) ifs tt) (he:∀cL eD C fp pn,PE (fR X scope (ls++cs) cL eD C fp pn) elt te)
  (QX:swapsWith (.ListComp elt [⟨tg,iter,ifs,0⟩] scope pos) (some (.Name x pos')) M0.line X.env=pure true:=by rfl)
  (hs:∀x,foldedSetIterable iter X.env x=pure x:=by intro _;rfl):PS X (.Assign [.Name x pos'] (.ListComp elt [⟨tg,iter,ifs,0⟩] scope pos) M0) (Jj (C9 wi ls js g tt te) (zN i)):=by
 intro pins s σ H D I h;rw[exec_Assign_Name_used _ _ _ _ QX];refine wpAny_bind (wpAny_standAt (wpAny_bind ?_));show wpAny _ X.A (do let _←comprehension (.ListComp elt [⟨tg,iter,ifs,0⟩] scope pos) scope X.env (firstIterPos [⟨tg,iter,ifs,0⟩] pos) (newList []) false (eval iter X.env) (some (assign (.Name x pos') X.env))) _ _ s;refine wpAny_bind (wpAny_mono (uM (use:=some (assign (.Name x pos') X.env)) (QQ:=fun _ s'=>SP X pins D .next s') hc S hi hg ht he I h (fun Dl C H' s' m I' q hm fc=>?_) hs) (fun _ s' hq=>wpAny_pure (wpAny_pure hq)) fun _ _ e=>e);show wpAny _ X.A (assign (.Name x pos') X.env (.ref Dl)) _ _ _;obtain⟨q1,q2,q3,q4,q5,q6⟩:=fc;refine wpAny_assign_Name (uz (v:= .ref Dl) I' hN wQ (.inl hx) rfl (fun s2 I2 ⟨a,MZ,ha⟩=>?_) (.inr hx));have dE:C≠a:=by
  rcases ha with rfl|ha
  ·exact q2
  ·exact fun z=>q5 x a ha z.symm
 refine⟨m,hm.sameBut MZ dE,fun h' QY=>?_⟩;exact⟨_,H',I2.turned (t':=s2.toks) (fun b o hb e=>QY.extBut b o hb e) q1 q2 q4 q5 q6,q⟩
end
def OS(z:Str):It:=⟨fun i _=>i<z.length,fun i H x H'=>H'=H∧∃c,z.cps.toList[i]?=some c∧x= .str ⟨#[c]⟩,fun i _=>z.length≤i⟩
theorem C_{P:Program}{w:World}{K:Frag}{tg:Expr}{it:Addr}{z:Str}{ty:String}{t:Tok}(Cd:ty="str_ascii_iterator"∨ty="str_iterator"):Turn P w K tg (OS z) [it] it (fun i h=>h.IsStrIter it ty z t i) where
 mem:=Zx
 obj:=fun i h st b hb=>by
  have e:b=it:=by simpa using hb
  subst e;obtain⟨o,e,c,d⟩:=st;exact⟨o,e,fun v z=>by rw[d]at z;cases z⟩
 keep:=fun i h h' st k=>let ⟨o,ho,r⟩:=st;⟨o,k it (Zx) o ho,r⟩
 item:=by
  intro X hP hw hK hc i pins s σ H E I hf st hg;subst hP hw hK;obtain⟨f0,f1,f2,f3,f4,f5⟩:=hf it (Zx);have hg:i<z.cps.size:=hg;have key:∀h',h'.IsStrIter it ty z t (i+1)→Heap.SameBut it s.heap h'→∃u,some (Value.str ⟨#[z.cps[i]]⟩ s.toks)=some u∧
    wpAny (model X.prog X.w) X.A (letOwnedTupleGo tg (.ref it) u) (fun _ s2=>∃x H',Inv X pins σ H' s2∧RelV x u∧(OS z).FF i H x H'∧s2.heap.IsStrIter it ty z t (i+1)∧∀b∈[it],H' b=none) E {s with heap:=h',toks:=s.toks+1}:=fun h' aL sb=>by
   have I1:Inv X pins σ H {s with heap:=h',toks:=s.toks+1}:=I.turned (fun b o hb e=>(sb.2 b hb).trans e) f0 f1 f3 f4 f5;obtain⟨o,e,c,d⟩:=id aL;refine⟨_,rfl,w9 (s:={s with heap:=h',toks:=s.toks+1}) e c d (by rcases Cd with rfl|rfl<;>decide) ⟨.str ⟨#[z.cps[i]]⟩,H,I1,⟨_,rfl⟩,⟨rfl,z.cps[i],by simp[hg],rfl⟩,aL,fun b hb=>(hf b hb).1⟩⟩
  rcases Cd with rfl|rfl
  ·exact wpAny_pyNext_ascii_item st (c:=z.cps[i]) (by simp[hg]) key
  ·exact wpAny_pyNext_wide_item st (c:=z.cps[i]) (by simp[hg]) key
 done:=by
  intro X hP hw hK hc i pins s σ H E I hf st hg;subst hP hw hK;obtain⟨f0,f1,f2,f3,f4,f5⟩:=hf it (Zx);have hg:z.cps.size≤i:=hg;rcases Cd with rfl|rfl
  ·exact wpAny_pyNext_ascii_end (I.ok.hd hc) st (by simp[hg]) fun h' eb=>⟨rfl,I.turned (t':=s.toks) (fun b o hb e=>eb b o hb e) f0 f1 f3 f4 f5⟩
  ·exact wpAny_pyNext_wide_end (I.ok.hd hc) st (by simp[hg]) fun h' eb=>⟨rfl,I.turned (t':=s.toks) (fun b o hb e=>eb b o hb e) f0 f1 f3 f4 f5⟩
 self:=fun _ _ _ _ _ st h=>by
  rcases Cd with rfl|rfl
  ·exact wpAny_pyIter_striter_ascii st h
  ·exact wpAny_pyIter_striter_wide st h
section
variable{X:Cx}{tg:Expr}
def QZ(tl:TE):TI:=fun σ H R=>tl σ H fun x H1=>∃z,x= .str z∧R (OS z) H1
theorem JM{l:Expr}{tl:TE}(hl:PE X l tl):PI X tg l (QZ tl):=by
 intro pins s σ H R I h;refine cz (hl pins s σ H _ I h) fun v s1 ⟨x,H1,I1,r1,q1⟩=>?_
 obtain⟨z,e,q⟩:=q1;subst e;obtain⟨t,rfl⟩:=r1;refine wpAny_pyIter_strU ?_;refine⟨s1.heap.objs.size,[s1.heap.objs.size],_,_,H1,rfl,I1.kept (t':=s1.toks) fun b o e=>Zj e,C_ (ty:=strIterType z) (t:=t) (by unfold strIterType;split<;>simp),⟨_,Heap.get?_push_size _ rfl,rfl,rfl⟩,fun b hb=>?_,q⟩;have e:b=s1.heap.objs.size:=by simpa using hb
 subst e;exact I1.tS (Nat.le_refl _) (I1.bH.fresh (Nat.le_refl _))
end
theorem nS{J:It}{n:Nat}{ls:List Str}{js:List Nat}{g:TG}{tt:TT}{te:TE}{σ:St}{H1:Hp}{D:Addr}{Q:VK}(Pv:Nat→List V→St→Hp→Prop)
  (h0:Pv 0 [] (kX ls js σ) (upd H1 D (.lst []))) (V9:∀i ys σ H,i<n→Pv i ys σ H→J.go i H) (uA:∀ys σ H,Pv n ys σ H→J.stop n H)
  (hs:∀i ys σ H x H2,i<n→Pv i ys σ H→J.FF i H x H2→g x σ H2 fun fm H3=>tt fm H3 fun b H4=>if b=true then te fm H4 fun y H5=>H5 D=some (.lst ys)∧ys.length<sizeLine∧Pv (i+1) (ys++[y]) fm (upd H5 D (.lst (ys++[y])))else Pv (i+1) ys fm H4)
  (hd:∀ys σ H,Pv n ys σ H→Q (.ref D) H):
  rX J ls js g tt te σ H1 D Q:=by
 refine⟨fun i m ys σ H=>m=n-i∧i≤n∧Pv i ys σ H,⟨n,Zx,Nat.zero_le _,h0⟩,?_⟩;rintro i m ys σ H ⟨rfl,hi,p⟩;by_cases ie:i<n
 ·exact .inr ⟨V9 i ys σ H ie p,Pv (i+1),fun HP fm H2 p'=>⟨n-(i+1),by lia,rfl,ie,p'⟩,fun x H2 y=>hs i ys σ H x H2 ie p y⟩
 ·have e:i=n:=by lia
  subst e;exact .inl ⟨uA ys σ H p,hd ys σ H p⟩
theorem iF{K:Frag}{a:Addr}{xs:List V}{ls:List Str}{js:List Nat}{g:TG}{tt:TT}{te:TE}{σ:St}{H1:Hp}{D:Addr}{Q:VK}(Pv:Nat→List V→St→Hp→Prop)
  (h0:Pv 0 [] (kX ls js σ) (upd H1 D (.lst []))) (hl:∀i ys σ H,i≤xs.length→Pv i ys σ H→jC K H a xs)
  (hs:∀i x ys σ H,xs[i]?=some x→Pv i ys σ H→g x σ H fun fm H3=>tt fm H3 fun b H4=>if b=true then te fm H4 fun y H5=>H5 D=some (.lst ys)∧ys.length<sizeLine∧Pv (i+1) (ys++[y]) fm (upd H5 D (.lst (ys++[y])))else Pv (i+1) ys fm H4)
  (hd:∀ys σ H,Pv xs.length ys σ H→Q (.ref D) H):
  rX (Lj K a) ls js g tt te σ H1 D Q:=
 nS (n:=xs.length) Pv h0 (fun i ys σ H hi p=>⟨xs,xs[i],hl i ys σ H (Nat.le_of_lt hi) p,by simp[hi]⟩) (fun ys σ H p=>⟨xs,hl _ ys σ H (Nat.le_refl _) p,Nat.le_refl _⟩)
  (fun i ys σ H x H2 hi p y=>by
   obtain⟨e,y⟩:=y;subst e;exact hs i x ys σ _ (y xs (hl i ys σ _ (Nat.le_of_lt hi) p)) p) hd
theorem j4{lo:Int}{n:Nat}{ls:List Str}{js:List Nat}{g:TG}{tt:TT}{te:TE}{σ:St}{H1:Hp}{D:Addr}{Q:VK}(Pv:Nat→List V→St→Hp→Prop)
  (h0:Pv 0 [] (kX ls js σ) (upd H1 D (.lst [])))
  (hs:∀i ys σ H,i<n→Pv i ys σ H→g (.int (lo+i)) σ H fun fm H3=>tt fm H3 fun b H4=>if b=true then te fm H4 fun y H5=>H5 D=some (.lst ys)∧ys.length<sizeLine∧Pv (i+1) (ys++[y]) fm (upd H5 D (.lst (ys++[y])))else Pv (i+1) ys fm H4)
  (hd:∀ys σ H,Pv n ys σ H→Q (.ref D) H):
  rX (Hw lo n) ls js g tt te σ H1 D Q:=
 nS (n:=n) Pv h0 (fun i ys σ H hi p=>hi) (fun ys σ H p=>Nat.le_refl _)
  (fun i ys σ H x H2 hi p y=>by
   obtain⟨e,y⟩:=y;subst e y;exact hs i ys σ _ hi p) hd
theorem Dd{z:Str}{ls:List Str}{js:List Nat}{g:TG}{tt:TT}{te:TE}{σ:St}{H1:Hp}{D:Addr}{Q:VK}(Pv:Nat→List V→St→Hp→Prop)
  (h0:Pv 0 [] (kX ls js σ) (upd H1 D (.lst [])))
  (hs:∀i c ys σ H,z.cps.toList[i]?=some c→Pv i ys σ H→g (.str ⟨#[c]⟩) σ H fun fm H3=>tt fm H3 fun b H4=>if b=true then te fm H4 fun y H5=>H5 D=some (.lst ys)∧ys.length<sizeLine∧Pv (i+1) (ys++[y]) fm (upd H5 D (.lst (ys++[y])))else Pv (i+1) ys fm H4)
  (hd:∀ys σ H,Pv z.length ys σ H→Q (.ref D) H):
  rX (OS z) ls js g tt te σ H1 D Q:=
 nS (n:=z.length) Pv h0 (fun i ys σ H hi p=>hi) (fun ys σ H p=>Nat.le_refl _)
  (fun i ys σ H x H2 hi p y=>by
   obtain⟨e,c,hc,ex⟩:=y;subst e ex;exact hs i c ys σ _ hc p) hd
theorem uN(z:Str)(lo hi:Option Int):(Txt.slice z lo hi).cps.toList=(z.cps.toList.drop (HT.uI z.length 0 lo)).take (HT.uI z.length z.length hi-HT.uI z.length 0 lo):=by
 have V_:=HT.CU z.length 0 (Nat.zero_le _) lo;have V':=HT.CU z.length z.length (Nat.le_refl _) hi;have ix:Builtin.Str.strSliceIndices lo hi 1 z.length=(List.range (HT.uI z.length z.length hi-HT.uI z.length 0 lo)).map (HT.uI z.length 0 lo+·):=by
  rw[←sliceRange_one];have pos:(1:Int)>0:=Zv;cases lo with
  |none=>
   cases hi with
   |none=>rfl
   |some j=>
    simp only[Builtin.Str.strSliceIndices,HT.uI,pos,if_true]
    congr 1
    by_cases h:j<0
    ·simp only[h,if_true];lia
    ·simp only[h,if_false];lia
  |some i=>
   have e1:max 0 (min (if i<0 then i+(z.length:Int)else i) (z.length:Int))=((HT.uI z.length 0 (some i):Nat):Int):=by
    simp only[HT.uI];by_cases h:i<0
    ·simp only[h,if_true];lia
    ·simp only[h,if_false];lia
   cases hi with
   |none=>
    simp only[Builtin.Str.strSliceIndices,pos,if_true];rw[e1];rfl
   |some j=>
    have e2:max 0 (min (if j<0 then j+(z.length:Int)else j) (z.length:Int))=((HT.uI z.length z.length (some j):Nat):Int):=by
     simp only[HT.uI];by_cases h:j<0
     ·simp only[h,if_true];lia
     ·simp only[h,if_false];lia
    simp only[Builtin.Str.strSliceIndices,pos,if_true];rw[e1,e2]
 have hp:=pick_run z.cps (HT.uI z.length 0 lo) (HT.uI z.length z.length hi-HT.uI z.length 0 lo);unfold Txt.slice;rw[ix];split
 ·rename_i h
  simp only[List.length_map,List.length_range,beq_self_eq_true,Bool.true_and,beq_iff_eq]at h;have h0:HT.uI z.length 0 lo=0:=by lia
  have h1:HT.uI z.length z.length hi=z.length:=by lia
  rw[h0,h1,List.drop_zero,Nat.sub_zero,List.take_of_length_le (by simp[Str.length])]
 ·rw[←hp]
theorem uO(z:Str)(lo hi:Option Int):(Txt.slice z lo hi).length≤z.length:=Txt.slice_le z lo hi
section
variable{X:Cx}
def Q0:V→Option Int→Option Int→Hp→VK→Prop:=fun x lo hi H Q=>∃z,x= .str z∧z.length≤sizeLine∧Q (.str (Txt.slice z lo hi)) H
theorem yR:Tf X Q0:=by
 intro pins s σ H x v vl vu lo hi sl Q I rx hs pl pu h;obtain⟨z,rfl,hz,q⟩:=h;obtain⟨t,rfl⟩:=rx;refine⟨"str",_,F.slot_str_getitem.lookup,typeIs_str _ _ _,?_⟩;have go:∀l u:Option (Int×Tok),vl=partValue l→vu=partValue u→l.map (·.1)=lo→u.map (·.1)=hi→wpAny (model X.prog X.w) X.A (getItem (.str z t) (.ref sl)) (EP X pins σ Q) X.xe s:=by
  rintro l u rfl rfl rfl rfl;obtain⟨o,h1,h2,h3⟩:=hs;refine wpAny_getItem_str_slice (l:=l) (u:=u) (st:=none) ⟨o,h1,h2,h3⟩ rfl ?_;exact post_val_or_str ⟨Nat.le_trans (Txt.slice_le z _ _) hz,fun t' k=>⟨.str (Txt.slice z (l.map (·.1)) (u.map (·.1))),H,I.tok _,⟨_,rfl⟩,q⟩⟩
 cases pl with
 |none=>
  cases pu with
  |none=>exact go none none rfl rfl rfl rfl
  |int j tj=>exact go none (some (j,tj)) rfl rfl rfl rfl
 |int i ti=>
  cases pu with
  |none=>exact go (some (i,ti)) none rfl rfl rfl rfl
  |int j tj=>exact go (some (i,ti)) (some (j,tj)) rfl rfl rfl rfl
theorem uP:rg X (compareOp .LtE) (fun x y H Q=>∃i j,x= .str i∧y= .str j∧Q (.bl (!decide (j.cps.toList<i.cps.toList))) H):=by
 intro pins s σ H x y v u Q I rx ry h;obtain⟨i,j,rfl,rfl,q⟩:=h;obtain⟨t,rfl⟩:=rx;obtain⟨t',rfl⟩:=ry;exact P.le_str (bD I q rfl)
theorem Gd{bs:List Bool}{us:List Value}(r:Vals (bs.map V.bl) us)(i:Nat)(v:Value)(h:us[i]?=some v):v= .bool (bs.getD i false):=by
 induction bs generalizing us i with
 |nil=>cases r;simp at h
 |cons b r' ih=>
  cases r with
  |cons r0 rr=>
   cases i with
   |zero=>
    have h0:some _=some v:=h;cases h0;exact r0
   |succ i=>simpa using ih rr i (by simpa using h)
theorem all_range(bs:List Bool):(List.range bs.length).all (fun i=>bs.getD i false)=bs.all id:=by
 rw[Bool.eq_iff_iff,List.all_eq_true,List.all_eq_true];constructor
 ·intro h b hb;obtain⟨i,hi,rfl⟩:=List.mem_iff_getElem.mp hb;have:=h i (by simpa using hi);simpa[hi]using this
 ·intro h i hi;have hi:i<bs.length:=by simpa using hi
  simpa[hi]using h bs[i] (List.getElem_mem hi)
def M4(K:Frag)(f:List Bool→Bool):List V→Hp→VK→Prop:=fun xs H Q=>∃a bs,xs=[.ref a]∧jC K H a (bs.map V.bl)∧Q (.bl (f bs)) H
theorem De(hc:X.calm=true):gY X (.builtin "all") (M4 X.K fun bs=>bs.all id):=by
 intro pins s σ H xs us Q I r h;obtain⟨a,bs,rfl,hq,q⟩:=h;cases r with
 |cons r rr=>
  cases rr;cases r;obtain⟨its,rv,p,hz⟩:=I.list hq;have hl:=rv.length;rw[List.length_map]at hl;refine call_all_walk (wpAny_pyIter_list p.isList ?_);have dE:a≠s.heap.objs.size:=by
   obtain⟨o,n,e,_⟩:=p;exact Nat.ne_of_lt (Heap.lt_size e)
  refine⟨s.heap.objs.size,_,_,_,_,_,fun i=>bs.getD i false,rfl,Walks.list (A:=X.A.in1) (show X.A.in1.handled=none from I.ok.hd hc) _ a dE its.toArray,⟨⟨_,Heap.get?_push_size _ rfl,rfl,rfl⟩,p.isList.at fun o e=>Zj e⟩,fun i v s1 Q1 E1 hv q1=>?_,fun h' tk hk=>?_⟩
  ·have hv:=Gd rv i v (by simpa using hv);subst hv;exact wpAny_truthy_bool q1
  ·rw[List.size_toArray,←hl,all_range];refine⟨.bl (bs.all id),H,I.kept fun b o e=>hk b o (fun z=>?_) (Zj e),rfl,q⟩;have z:b=s.heap.objs.size:=by simpa using z
   exact absurd (z▸Heap.lt_size e) (Nat.lt_irrefl _)
def Df:V→Option Value
 | .ty n=>some (.type n)
 | .ref C=>some (.ref C)
 | _=>none
theorem uQ{c:V}{cv u:Value}(h:Df c=some cv)(r:RelV c u):u=cv:=by
 cases c<;>first
  |(cases h;done)
  |(cases h;exact r)
inductive JN(K:Frag)(xs:List V)(H:Hp)(Q:VK):Prop
 |mk (x:_) (c:_) (t:_) (b:_) (cv:_) (_:xs=[x,c]) (_:Df c=some cv) (_:pF K H x t) (_:kitOne K t cv=some b) (_:Q (.bl b) H):JN K xs H Q
theorem Dg:gY X (.builtin "isinstance") (JN X.K):=by
 intro pins s σ H xs us Q I r h;obtain⟨x,c,t,b,cv,rfl,rc,ty,hk,q⟩:=h;cases r with
 |cons r1 rr=>
  cases rr with
  |cons r2 rr=>
   cases rr;cases uQ rc r2;exact Bc I r1 ty hk fun tk=>⟨.bl b,H,I.tok _,rfl,q⟩
inductive Dh(K:Frag)(xs:List V)(H:Hp)(Q:VK):Prop
 |mk (x:_) (C:_) (c:_) (b:_) (cv:_) (_:xs=[.ref x,c]) (_:H x=some (.exc x C)) (_:qJ K C) (_:Df c=some cv) (_:kitOne K (.ref C) cv=some b) (_:Q (.bl b) H):Dh K xs H Q
theorem Br:gY X (.builtin "isinstance") (Dh X.K):=by
 intro pins s σ H xs us Q I r h;obtain⟨x,C,c,b,cv,rfl,hx,e,rc,hk,q⟩:=h;cases r with
 |cons r1 rr=>
  cases rr with
  |cons r2 rr=>
   cases rr;cases r1;cases uQ rc r2;exact yQ I hx e hk fun tk=>⟨.bl b,H,I.tok _,rfl,q⟩
end
section
variable{P:Program}{w:World}{K:Frag}{mg:Str→Option Value}{base:Heap}
abbrev OT(P:Program)(w:World)(K:Frag)(mg:Str→Option Value)(base:Heap)(cm:Bool)(N:List Str)(qual:Str)(scope:Scope)(f:Addr)(cd:Value)(A:Around)(outer:List Env)(s:Shared)(H:Hp)(E:XK):Cx:=
 yI (dD P w) cm P w K mg base N qual scope f cd A outer s H E
theorem lO.iL{cm:Bool}{x qual:Str}{st:Stmt}{f:Addr}{fd:FuncData}{N ps:List Str}{k:Nat}{sp:Sp}(F:lO K x qual st f fd)(S:aJ N ps (ao st))(len:∀vs H Q E,sp vs H Q E→vs.length=ps.length)
  (xg:∀(gw:Value)(A:Around)(outer:List Env)(s:Shared)(H:Hp)(vs:List V)(Q:VK)(E:XK),cY cm k (A.deeper (envOfC qual (ao st) s.heap.objs.size f gw))→sp vs H Q E→
   OL (OT P w K mg base cm N qual (ao st) f gw A outer s H E) (fun _=>E)→
   ∃t,yy (OT P w K mg base cm N qual (ao st) f gw A outer s H E) (dZ st) t∧t {nx:=fun _ H'=>Q .cn H',rt:=Q} (start N vs) H):bf P w K mg base (dD P w) cm (k+1) f fd ps sp:=by
 obtain⟨oc,od,kV,doc,pm,an,gw,ct,Z1,rfl,lk,A5⟩:=F.ex;exact HF lk A5 S len fun A outer s H vs Q E hr Ff=>xg gw A outer s H vs Q E hr Ff ZM
end
theorem cY.loose{cm:Bool}{k:Nat}{A:Around}(r:cY cm k A):cY false k A:=⟨(fun z=>nomatch z),r.dp,r.un⟩
def cK(P:Program)(w:World)(K:Frag)(mg:Str→Option Value)(base:Heap)(cm:Bool)(k:Nat)(x:Str)(ps:List Str)(sp:Sp):Prop:=
 ∃f fd,bf P w K mg base (dD P w) cm k f fd ps sp∧mg x=some (.ref f)∧keepIn K (.ref f)=true∧Binds K fd ps []
theorem Di{P:Program}{w:World}{K:Frag}{mg:Str→Option Value}{base:Heap}{cm:Bool}{k:Nat}{x y:Str}{ps:List Str}{sp:Sp}{st:Stmt}{f:Addr}{fd:FuncData}(F:lO K x y st f fd)(hm:mg x=some (.ref f))(b:Binds K fd ps [])
  (ok:bf P w K mg base (dD P w) cm k f fd ps sp):cK P w K mg base cm k x ps sp:=⟨f,fd,ok,hm,F.kp,b⟩
section
variable{X:Cx}{cm:Bool}{k:Nat}{x:Str}{ps:List Str}{sp:Sp}{E:St→XK}{e:Expr}{es:List Expr}{t:TA}{p pos:Pos}
theorem aN(D:cK X.prog X.w X.K X.mg X.base cm k x ps sp)(hr:cY cm k X.A)(hx:Passes (dD X.prog X.w) X E)(ha:PA X (e::es) t)(hg:Gl X x:=by rfl)(tT:(x==("__debug__":Str))=false:=by decide)
  (he:starEach (e::es) X.env=(false,eval e X.env)::starEach es X.env:=by rfl) (pG:(backTo pos (starEach es X.env)).any (·.1)=false:=by rfl):PE X (.Call (.Name x p) (e::es) [] pos) (HE sp [] E t):=by
 obtain⟨f,fd,ok,hm,hk,hb⟩:=D;exact FQ ok hr hg hm hk hb .nil hx ha tT he pG
theorem ft{v:V}(h:∃u,X.mg x=some u∧RelV v u)(hg:Gl X x:=by rfl)(hd:(x==("__debug__":Str))=false:=by decide):PE X (.Name x pos) (tC v):=by
 obtain⟨u,h1,h2⟩:=h;exact c6 hg h1 h2 hd
end
theorem rn{σ:St}{H:Hp}{A B:Hp→Prop}(h:A H):JL σ H (fun b H4=>if b=true then A H4 else B H4):=by
 show if true=true then A H else B H
 exact jH h
theorem kY{i:Nat}{x:V}{σ:St}{H:Hp}{A B:St→Hp→Prop}(h:A (σ.set i (some x)) H):zN i x σ H (fun fm H3=>JL fm H3 (fun b H4=>if b=true then A fm H4 else B fm H4)):=by
 show if true=true then A (σ.set i (some x)) H else B (σ.set i (some x)) H
 exact jH h
theorem ax{n:Nat}(h:n≤100000):n≤sizeLine:=Nat.le_trans h (Zv)
theorem bh{n:Nat}(h:n≤100000):n<sizeLine:=Nat.lt_of_le_of_lt h (Zv)
def Q2(t u:TS):TS:=fun D σ H=>∃Pm:St→Hp→Prop,t {D with nx:=Pm} σ H∧∀a7 H',Pm a7 H'→u D a7 H'
theorem az{X:Cx}{st:Stmt}{rest:List Stmt}{t u:TS}(h1:PS X st t)(h2:yy X rest u):yy X (st::rest) (Q2 t u):=by
 intro pins s σ H D I h;obtain⟨Pm,ht,hu⟩:=h;refine wpAny_execs_cons (cz (h1 pins s σ H {D with nx:=Pm} I ht) fun f s1 q=>?_);cases f with
 |next=>obtain⟨a7,H',I',p⟩:=q;exact h2 pins s1 a7 H' D I' (hu a7 H' p)
 |brk=>exact q
 |cont=>exact q
 |ret v=>exact q
theorem ar.upd{H:Hp}{a:Addr}{o:HO}(h:H a=none):ar H (upd H a o):=fun b u e=>by rw[ai (aA e h)];exact e
theorem ar.fA{H H':Hp}{a:Addr}{o:HO}(s:ar H H')(h:H a=none):ar H (L2.upd H' a o):=fun b u e=>by rw[ai (aA e h)];exact s b u e
end L2
namespace QF
open PySem L2
theorem tO{n:Nat}{P:List Value→Prop}(h:∀a us,us.length=n→P (a::us)):∀us:List Value,us.length=n+1→P us:=fun us e=>by
 cases us with
 |nil=>cases e
 |cons a r=>exact h a r (Nat.succ.inj e)
theorem Lq{P:List Value→Prop}(h:P []):∀us:List Value,us.length=0→P us:=fun us e=>by
 cases us with
 |nil=>exact h
 |cons a r=>cases e
theorem Wa{P:List Value→Prop}(h:∀a,P [a]):∀us:List Value,us.length=1→P us:=tO fun a=>Lq (h a)
theorem Wb{P:List Value→Prop}(h:∀a b,P [a,b]):∀us:List Value,us.length=2→P us:=tO fun a=>tO fun b=>Lq (h a b)
theorem Wc{P:List Value→Prop}(h:∀a b c,P [a,b,c]):∀us:List Value,us.length=3→P us:=tO fun a=>tO fun b=>tO fun c=>Lq (h a b c)
theorem Wd{P:List Value→Prop}(h:∀a b c d,P [a,b,c,d]):∀us:List Value,us.length=4→P us:=tO fun a=>tO fun b=>tO fun c=>tO fun d=>Lq (h a b c d)
theorem We{P:List Value→Prop}(h:∀a b c d e,P [a,b,c,d,e]):∀us:List Value,us.length=5→P us:=tO fun a=>tO fun b=>tO fun c=>tO fun d=>tO fun e=>Lq (h a b c d e)
theorem Wf{P:List Value→Prop}(h:∀a b c d e f g,P [a,b,c,d,e,f,g]):∀us:List Value,us.length=7→P us:=tO fun a=>tO fun b=>tO fun c=>tO fun d=>tO fun e=>tO fun f=>tO fun g=>Lq (h a b c d e f g)
theorem Wg(us:List Value)(e:us.length=7):∃a b c d e f g,us=[a,b,c,d,e,f,g]:=Wf (P:=fun us=>∃a b c d e f g,us=[a,b,c,d,e,f,g]) (fun a b c d e f g=>⟨a,b,c,d,e,f,g,rfl⟩) us e
end QF
namespace L2
open PySem PySem.Spec PyProof.Rows PySem.W PySem.Calls
def notStar:Expr→Bool
 | .Starred _ _=>false
 | _=>true
theorem rY{e:Expr}{es:List Expr}{env:Env}(h:notStar e=true):starEach (e::es) env=(false,eval e env)::starEach es env:=by
 cases e<;>first|rfl|cases h
theorem aj{X:Cx}{e:Expr}{es:List Expr}{te:TE}{t:TA}(ha:PE X e te)(hr:PA X es t)(hn:notStar e=true:=by rfl):PA X (e::es) (HC te t):=FP ha hr (rY hn)
structure ig(K:Frag)(x qual:Str)(st:Stmt)(f:Addr)(fd:FuncData):Prop where
 ex:∃(oc:Value)(od:Option Addr)(dV kV doc pm:Value)(an:Option Addr)(gw ct:Value)(Z1:Array (Option Value)),
  fd=fnOf x qual (fo st) (dZ st) (ao st) dV kV doc pm an gw ct∧K.lookup f=some ⟨oc,od, .func fd,Z1⟩∧codeIn K gw qual=true
 kp:keepIn K (.ref f)=true
theorem ZN{K:Frag}{x qual:Str}{st:Stmt}{f:Addr}{oc:Value}{od an:Option Addr}{Z1:Array (Option Value)}{dV kV doc pm gw ct:Value}(l:K.lookup f=some ⟨oc,od, .func (fnOf x qual (fo st) (dZ st) (ao st) dV kV doc pm an gw ct),Z1⟩)
  (c:codeIn K gw qual=true) (k:keepIn K (.ref f)=true):ig K x qual st f (fnOf x qual (fo st) (dZ st) (ao st) dV kV doc pm an gw ct):=⟨⟨oc,od,dV,kV,doc,pm,an,gw,ct,Z1,rfl,l,c⟩,k⟩
section
variable{P:Program}{w:World}{K:Frag}{mg:Str→Option Value}{base:Heap}
theorem ig.iL{cm:Bool}{x qual:Str}{st:Stmt}{f:Addr}{fd:FuncData}{N ps:List Str}{k:Nat}{sp:Sp}(F:ig K x qual st f fd)(S:aJ N ps (ao st))(len:∀vs H Q E,sp vs H Q E→vs.length=ps.length)
  (xg:∀(gw:Value)(A:Around)(outer:List Env)(s:Shared)(H:Hp)(vs:List V)(Q:VK)(E:XK),cY cm k (A.deeper (envOfC qual (ao st) s.heap.objs.size f gw))→sp vs H Q E→
   OL (OT P w K mg base cm N qual (ao st) f gw A outer s H E) (fun _=>E)→
   ∃t,yy (OT P w K mg base cm N qual (ao st) f gw A outer s H E) (dZ st) t∧t {nx:=fun _ H'=>Q .cn H',rt:=Q} (start N vs) H):bf P w K mg base (dD P w) cm (k+1) f fd ps sp:=by
 obtain⟨oc,od,dV,kV,doc,pm,an,gw,ct,Z1,rfl,lk,A5⟩:=F.ex;exact HF lk A5 S len fun A outer s H vs Q E hr Ff=>xg gw A outer s H vs Q E hr Ff ZM
end
def dX(P:Program)(w:World)(K:Frag)(mg:Str→Option Value)(base:Heap)(cm:Bool)(k:Nat)(C:Addr)(m:Str)(ps:List Str)(sp:Sp):Prop:=
 ∃f fd,bf P w K mg base (dD P w) cm k f fd ps sp∧Meth K C m f∧Binds K fd ps []∧vf K C
def mD(P:Program)(w:World)(K:Frag)(mg:Str→Option Value)(base:Heap)(cm:Bool)(k:Nat)(x:Str)(C:Addr)(ps:List Str)(lM:List V)(sp:Sp):Prop:=
 ∃f fd ds,bf P w K mg base (dD P w) cm k f fd ps sp∧Mk K C f∧mg x=some (.ref C)∧Binds K fd ps ds∧Vals lM ds
theorem xp{P:Program}{w:World}{K:Frag}{mg:Str→Option Value}{base:Heap}{cm:Bool}{k:Nat}{x:Str}{C f:Addr}{fd:FuncData}{ps:List Str}{lM:List V}{ds:List Value}{sp:Sp}(h1:bf P w K mg base (dD P w) cm k f fd ps sp)(h2:Mk K C f)(h3:mg x=some (.ref C))(h4:Binds K fd ps ds)(h5:Vals lM ds):mD P w K mg base cm k x C ps lM sp:=⟨f,fd,ds,h1,h2,h3,h4,h5⟩
theorem Bs{P:Program}{w:World}{K:Frag}{mg:Str→Option Value}{base:Heap}{cm:Bool}{k:Nat}{m:Str}{C f:Addr}{fd:FuncData}{ps:List Str}{sp:Sp}(h1:bf P w K mg base (dD P w) cm k f fd ps sp)(h2:Meth K C m f)(h3:Binds K fd ps [])(h4:vf K C):dX P w K mg base cm k C m ps sp:=⟨f,fd,h1,h2,h3,h4⟩
section
variable{X:Cx}{cm:Bool}{k:Nat}{x m:Str}{ps:List Str}{sp:Sp}{E:St→XK}{e o:Expr}{es:List Expr}{t:TA}{to:TE}{p pos apos:Pos}{C:Addr}{lM:List V}
theorem rp(D:mD X.prog X.w X.K X.mg X.base cm k x C ps lM sp)(hr:cY cm (k+1) X.A)(hx:Passes (dD X.prog X.w) X E)(ha:PA X (e::es) t)(hg:Gl X x:=by rfl)(tT:(x==("__debug__":Str))=false:=by decide)
  (he:starEach (e::es) X.env=(false,eval e X.env)::starEach es X.env:=by rfl) (pG:(backTo pos (starEach es X.env)).any (·.1)=false:=by rfl):PE X (.Call (.Name x p) (e::es) [] pos) (ZA C sp lM E t):=by
 obtain⟨f,fd,ds,ok,M,hm,hb,hd⟩:=D;exact FT M ok hr hg hm hb hd hx ha tT he pG
theorem bI{pl:Sem Bool}(ho:PE X o to)(D:dX X.prog X.w X.K X.mg X.base cm k C m ps sp)(hr:cY cm k X.A)(hx:Passes (dD X.prog X.w) X E)(ha:PA X (e::es) t)
  (uA:starEach (e::es) X.env=(false,eval e X.env)::starEach es X.env:=by rfl) (pG:(backTo pos (starEach es X.env)).any (·.1)=false:=by rfl)
  (ht:eval (.Call (.Attribute o m apos) (e::es) [] pos) X.env=(do
   let ov←eval o X.env
   standAt apos.atName
   let (f,first)←holding [ov] (getMethod ov m pl)
   callWith pos f first (backTo pos (starEach (e::es) X.env)) (backToKw pos (keywordEach [] X.env))):=by rfl):PE X (.Call (.Attribute o m apos) (e::es) [] pos) (Z9 C m sp [] E to t):=by
 obtain⟨f,fd,ok,hm,hb,c⟩:=D;exact FR ho c hm ok hr hb .nil hx ha uA pG ht
theorem Bt{pl:Sem Bool}(ho:PE X o to)(D:dX X.prog X.w X.K X.mg X.base cm k C m ps sp)(hr:cY cm k X.A)(hx:Passes (dD X.prog X.w) X E)
  (ht:eval (.Call (.Attribute o m apos) [] [] pos) X.env=(do
   let ov←eval o X.env
   standAt apos.atName
   let (f,first)←holding [ov] (getMethod ov m pl)
   callWith pos f first (backTo pos (starEach [] X.env)) (backToKw pos (keywordEach [] X.env))):=by rfl):PE X (.Call (.Attribute o m apos) [] [] pos) (Z9 C m sp [] E to CI):=by
 obtain⟨f,fd,ok,hm,hb,c⟩:=D;exact CK ho c hm ok hr hb .nil hx ht
end
section
variable{X:Cx}
theorem cj(K:Frag){tg l:Expr}{tl:TE}(hl:PE X l tl)(h:X.K=K:=by rfl):PI X tg l (Hx K tl):=h▸FG hl
theorem aC(K:Frag){e:Expr}{f:Str}{pos:Pos}{ta:TE}(he:PE X e ta)(hb:attributeBase e f X.env (eval e X.env)=eval e X.env:=by rfl)(h:X.K=K:=by rfl):PE X (.Attribute e f pos) (Mo K ta f):=h▸Jo he hb
theorem bX(K:Frag){o value:Expr}{f:Str}{pos pos':Pos}{ta tv:TE}(ha:PE X o ta)(hv:PE X value tv)(hs:swapsWith value (some (.Attribute o f pos')) pos.line X.env=pure false:=by rfl)(h:X.K=K:=by rfl):PS X (.Assign [.Attribute o f pos'] value pos) (Mp K ta tv f):=h▸Jp ha hv hs
theorem aG(K:Frag)(h:X.K=K:=by rfl):Lm X (Jx K):=h▸F1
theorem bN(K:Frag)(h:X.K=K:=by rfl):Lm X (Jy K):=h▸Jz
inductive HQ(K:Frag)(xs:List V)(H:Hp)(Q:VK):Prop
 |mk (p:_) (ys:_) (_:xs=[.ref p]) (_:(jC K H p ys∨Cw K H p ys)) (_:Q (.int ys.length) H):HQ K xs H Q
theorem aK(K:Frag)(h:X.K=K:=by rfl):gY X (.builtin "len") (HQ K):=by
 subst h;intro pins s σ H xs us Q I r hq;obtain⟨p,ys,e,d,q⟩:=hq;exact vk pins s σ H xs us Q I r ⟨p,ys,e,d,q⟩
inductive Aa(K:Frag)(xs:List V)(H:Hp)(Q:VK):Prop
 |mk (p:_) (ys:_) (_:xs=[.ref p]) (_:(jC K H p ys∨Cw K H p ys)) (_:∀l,H l=none→Q (.ref l) (upd H l (.lst ys))):Aa K xs H Q
theorem tU(K:Frag)(h:X.K=K:=by rfl):gY X (.type "list") (Aa K):=by
 subst h;intro pins s σ H xs us Q I r hq;obtain⟨p,ys,e,d,q⟩:=hq;exact vm pins s σ H xs us Q I r ⟨p,ys,e,d,q⟩
theorem Bu(K:Frag)(hc:X.calm=true)(h:X.K=K:=by rfl):gY X (.builtin "all") (M4 K fun bs=>bs.all id):=h▸De hc
theorem gE(K:Frag)(h:X.K=K:=by rfl):gY X (.builtin "isinstance") (JN K):=h▸Dg
theorem bE(K:Frag)(h:X.K=K:=by rfl):gY X (.builtin "isinstance") (Dh K):=h▸Br
theorem i8(K:Frag){es:List Expr}{k:Nat}{t:Hv}{n:Nat}{pos:Pos}(hc:X.calm=true)(h:Me X es t)
  (hn:(assignEach es X.env).length=n:=by rfl) (uA:(assignEach es X.env).findIdx? (·.1)=none:=by rfl) (hK:X.K=K:=by rfl):PG X (.Tuple es k pos) (Jg K n t):=hK▸Jh hc h hn uA
theorem fS(K:Frag){T:String}{name:Str}{id:String}{r:V→List V→Hp→VK→Prop}{o e:Expr}{es:List Expr}{apos dW:Pos}{to:TE}{t:TA}(pa:PlainAttrs T)(slot:Slot T name id)(Cd:typeOf (.builtin id)=pure (.type "method_descriptor"))(hm:OH X id r)(ho:PE X o to)(ha:PA X (e::es) t)
  (nL:attributeBase o name X.env (eval o X.env)=eval o X.env:=by rfl)
  (F2:((backTo dW (starEach (e::es) X.env)).all (fun x=>!x.1)&&(backToKw dW (keywordEach [] X.env)).all (fun x=>x.1.isSome)
   &&decide ((e::es).length+([]:List Keyword).length+(if ([]:List Keyword).isEmpty then 0 else 1)<30))=true:=by rfl)
  (mB:(apos.endLine==dW.line)=true:=by rfl) (hs:starEach (e::es) X.env=(false,eval e X.env)::starEach es X.env:=by rfl) (yL:(backTo dW (starEach es X.env)).any (·.1)=false:=by rfl) (hK:X.K=K:=by rfl):
  PE X (.Call (.Attribute o name apos) (e::es) [] dW) (Tg K T r to t):=hK▸MA pa slot Cd hm ho ha nL F2 mB hs yL
end
theorem rZ{x:V}:∀{xs:List V}{us:List Value},Vals xs us→xs.all gy=true→us.countP (Ln x)=xs.countP fun y=>kU y x
 | _,_, .nil,_=>rfl
 |y::xs,u::us, .cons r t,f=>by
  rw[List.all_cons,Bool.and_eq_true]at f;rw[List.countP_cons,List.countP_cons,rZ t f.2,yK r f.1]
theorem Ab{x:V}{xs:List V}{us:List Value}(r:Vals xs us)(f:xs.all gy=true)(j:Nat)(h1:j<xs.length)(h2:j<us.length):Ln x us[j]=kU xs[j] x:=by
 obtain⟨u,e,ru⟩:=r.get (i:=j) (x:=xs[j]) (by simp[h1]);have e':us[j]=u:=by
  rw[List.getElem?_eq_getElem h2]at e;exact Zp e
 rw[e'];exact yK ru (List.all_eq_true.mp f _ (List.getElem_mem h1))
section
variable{X:Cx}
def JO:V→List V→Hp→VK→Prop:=fun x vs H Q=>∃l xs y,x= .ref l∧vs=[y]∧H l=some (.lst xs)∧gy y=true∧xs.all gy=true∧Q (.int ((xs.countP fun z=>kU z y:Nat):Int)) H
theorem Dj:MB X "list.count" JO:=by
 intro pins s σ H x vs v us Q I rx rv h;obtain⟨l,xs,y,rfl,rfl,hH,fy,fx,q⟩:=h;cases rx;obtain⟨u,rfl,ru⟩:=rv.one;obtain⟨z,its,n,r,hl,e⟩:=I.vn hH;refine call_meets F.slot_list_count ⟨_,e,rfl⟩ F.entry_list_count (F.args_list_count_2 _ _) (SeqAt.list_countAt l its.toArray n _ _ u (Ln y)) ⟨e,fun w hw=>rS ru fy r fx w (by simpa using hw),?_⟩;have ec:=rZ (x:=y) r fx;refine⟨.int ((xs.countP fun z=>kU z y:Nat):Int),H,I.tok _,⟨s.toks,?_⟩,q⟩;rw[←ec]
def JP:V→List V→Hp→VK→Prop:=fun x vs H Q=>∃l xs y j,x= .ref l∧vs=[y]∧H l=some (.lst xs)∧gy y=true∧xs.all gy=true∧(∃hj:j<xs.length,kU xs[j] y=true)∧(∀m (hm:m<xs.length),m<j→kU xs[m] y=false)∧Q (.int (j:Nat)) H
theorem Dk:MB X "list.index" JP:=by
 intro pins s σ H x vs v us Q I rx rv h;obtain⟨l,xs,y,j,rfl,rfl,hH,fy,fx,⟨hj,hit⟩,Ge,q⟩:=h;cases rx;obtain⟨u,rfl,ru⟩:=rv.one;obtain⟨z,its,n,r,hl,e⟩:=I.vn hH;have hlen:=r.length;have Gf:j<its.length:=by lia
 have mB:=mO;refine call_meets F.slot_list_index ⟨_,e,rfl⟩ F.entry_list_index (F.args_list_index_2 _ _) (SeqAt.list_indexAt l its.toArray n _ _ u (Ln y) j (by simpa using Gf) (by lia) (by
  have:=Ab (x:=y) r fx j hj Gf;simp only[List.getElem_toArray];rw[this];exact hit) fun m hm ie=>by
   have Bp:m<its.length:=by simpa using hm
   have:=Ab (x:=y) r fx m Zq Bp;simp only[List.getElem_toArray];rw[this];exact Ge m Zq ie) ⟨e,fun w hw=>rS ru fy r fx w (by simpa using hw),?_⟩
 exact⟨.int (j:Nat),H,I.tok _,⟨_,rfl⟩,q⟩
end
end L2
namespace QF
open PySem L2
structure TB(mg:Str→Option Value):Prop where
 d6:mg "len"=none
 gN:mg "range"=none
 aP:mg "isinstance"=none
 M5:mg "int"=none
 JQ:mg "bool"=none
 Ts:mg "str"=none
 r6:mg "list"=none
 Gg:mg "tuple"=none
 Q3:mg "dict"=none
 M6:mg "all"=none
 Tt:mg "any"=none
 M7:mg "min"=none
 HR:mg "max"=none
 i9:mg "enumerate"=none
 vw:mg "ValueError"=none
def CH(mg:Str→Option Value)(x:Str)(v:V):Prop:=∃u,mg x=some u∧RelV v u
def cell(ns:List Int)(k:Int):Int:=ns.getD k.toNat 0
theorem Gh{ns:List Int}{k:Int}(h0:0≤k)(h:k<(ns.length:Int)):tN (ns.map V.int) k=some (.int (cell ns k)):=by
 obtain⟨j,rfl⟩:=Int.eq_ofNat_of_zero_le h0;have hj:j<ns.length:=by lia
 refine aF ?_;simp[cell,hj]
theorem cell_out{ns:List Int}{k:Int}(h0:0≤k)(h:¬k<(ns.length:Int)):cell ns k=0:=by
 have hj:ns.length≤k.toNat:=by lia
 simp[cell,hj]
def low(c:Nat):Bool:=decide (97≤c)&&decide (c≤122)
def vx(z:Str):Bool:=decide (1≤z.length)&&decide (z.length≤12)&&z.cps.toList.all low
theorem Tu(a b:Nat):(([a]:List Nat)<[b])↔a<b:=by
 constructor
 ·intro h;cases h with
  |rel h=>exact h
  |cons h=>cases h
 ·intro h;exact .rel h
theorem Q4(c:Nat):(!decide (([c]:List Nat)<(Str.ofString "a").cps.toList))=decide (97≤c):=by
 have e:(Str.ofString "a").cps.toList=[97]:=by decide+kernel
 rw[e,Bool.eq_iff_iff];simp only[Bool.not_eq_true',decide_eq_false_iff_not,decide_eq_true_eq,Tu]
 lia
theorem Q5(c:Nat):(!decide ((Str.ofString "z").cps.toList<([c]:List Nat)))=decide (c≤122):=by
 have e:(Str.ofString "z").cps.toList=[122]:=by decide+kernel
 rw[e,Bool.eq_iff_iff];simp only[Bool.not_eq_true',decide_eq_false_iff_not,decide_eq_true_eq,Tu]
 lia
theorem len_app(x y:Str):(x++y).length=x.length+y.length:=by
 show(x.cps++y.cps).size=_;rw[Array.size_append];rfl
inductive Dm(K:W.Frag)(vs:List V)(H:Hp)(Q:VK)(u3:XK):Prop
 |mk (a:_) (ns:_) (k:_) (_:vs=[.ref a, .int k]) (_:jC K H a (ns.map V.int)) (_:0≤k) (_:Q (.int (cell ns k)) H):Dm K vs H Q u3
inductive r9(vs:List V)(H:Hp)(Q:VK)(u3:XK):Prop
 |mk (i:_) (_:vs=[.int i]) (_:Q (.bl true) H):r9 vs H Q u3
inductive yS(vs:List V)(H:Hp)(Q:VK)(u3:XK):Prop
 |mk (c:Nat) (_:vs=[.str ⟨#[c]⟩]) (_:Q (.bl (low c)) H):yS vs H Q u3
inductive vy(vs:List V)(H:Hp)(Q:VK)(u3:XK):Prop
 |mk (z:Str) (_:vs=[.str z]) (_:z.length≤100000) (_:∀H',ar H H'→Q (.bl (vx z)) H'):vy vs H Q u3
inductive mT(vs:List V)(H:Hp)(Q:VK)(u3:XK):Prop
 |mk (l n h:Int) (_:vs=[.int l, .int n, .int h]) (_:Q (.bl (decide (l≤n)&&decide (n≤h))) H):mT vs H Q u3
def Ac(K:W.Frag):Sp:=fun vs H Q _=>∃(a:Addr)(ns:List Int),vs=[.ref a]∧jC K H a (ns.map V.int)∧ns.length≤63∧∀H',Q (.bl true) H'
structure Er(K:W.Frag)(mg:Str→Option Value)(x:Str)(C:Addr):Prop where
 m:mg x=some (.ref C)
 e:qJ K C
def inR(l n h:Int):Bool:=decide (l≤n)&&decide (n≤h)
inductive pJ(C:Addr)(vs:List V)(H:Hp)(Q:VK)(E:XK):Prop
 |mk (nm:Str) (n l h:Int) (_:vs=[.str nm, .int n, .int l, .int h]) (_:nm.length≤20) (_:(0≤l∧l≤1)) (_:(h=100∨h=999999)) (_:(if inR l n h=true then Q .cn H else E (.ref C) none H)):pJ C vs H Q E
theorem nU{i:Int}(h:i=0∨i=1∨i=12∨i=40∨i=60∨i=100∨i=999999):i.natAbs.log2<1920∧(Str.ofString (toString i)).length≤6:=by
 rcases h with rfl|rfl|rfl|rfl|rfl|rfl|rfl<;>exact⟨by decide+kernel,by decide+kernel⟩
theorem lQ:(Str.empty).length=0:=by decide+kernel
theorem g7{x:V}:[x].length≤sizeLine:=ax Zr
def j5(x y:Str)(p:Int):Bool:=vx x&&vx y&&!(x==y)&&inR 0 p 999999
inductive vz(C:Addr)(vs:List V)(H:Hp)(Q:VK)(E:XK):Prop
 |mk (x y:Str) (p:Int) (_:vs=[.str x, .str y, .int p]) (_:x.length≤100000) (_:y.length≤100000) (_:(if j5 x y p=true then ∀H',ar H H'→Q .cn H' else ∀H',ar H H'→E (.ref C) none H')):vz C vs H Q E
abbrev Form:=Str×Str×Int
def Q6(f:Form):List V:=[.str f.1, .str f.2.1, .int f.2.2]
def me(f:Form):List Key:=[.inr f.1, .inr f.2.1]
def kZ(f:Form):List Key×V:=(me f, .int f.2.2)
def JR(f:Form):Bool:=j5 f.1 f.2.1 f.2.2
def kz(H:Hp)(xs:List V)(fs:List Form):Prop:=xs.length=fs.length∧∀(i:Nat)(f:Form),fs[i]?=some f→∃t,xs[i]?=some (V.ref t)∧H t=some (.tup (Q6 f))
def fg(fs:List Form):Bool:=decide (fs.length≤60)&&fs.all JR&&decide ((fs.map me).Nodup)
def Short(fs:List Form):Prop:=fs.length≤1000∧∀f∈fs,f.1.length≤100000∧f.2.1.length≤100000
theorem kz.same{H H':Hp}{xs:List V}{fs:List Form}(t:kz H xs fs)(s:ar H H'):kz H' xs fs:=⟨t.1,fun i f e=>let ⟨b,h1,h2⟩:=t.2 i f e;⟨b,h1,s _ _ h2⟩⟩
theorem kz.nil{H:Hp}:kz H [] []:=⟨rfl,fun i f e=>by simp at e⟩
inductive pK(C:Addr)(vs:List V)(H:Hp)(Q:VK)(E:XK):Prop
 |mk (a:Addr) (xs:List V) (fs:List Form) (_:vs=[.ref a]) (_:H a=some (.lst xs)) (_:kz H xs fs) (_:Short fs) (_:(if fg fs=true then ∀H' d,ar H H'→H d=none→H' d=some (.dT (fs.map kZ))→Q (.ref d) H' else ∀H',ar H H'→E (.ref C) none H')):pK C vs H Q E
theorem Ad(fs:List Form):(fs.map kZ).map (·.1)=fs.map me:=by rw[List.map_map];rfl
theorem Dn{fs:List Form}{i:Nat}{f:Form}(e:fs[i]?=some f)(h:JR f=false):fg fs=false:=by
 have hm:f∈fs:=Zd e;have:fs.all JR=false:=by
  rw[Bool.eq_false_iff];intro z;rw[List.all_eq_true]at z;rw[z f hm]at h;cases h
 simp[fg,this]
theorem Bv{fs:List Form}{i:Nat}{f:Form}(e:fs[i]?=some f)(h:me f∈(fs.take i).map me):fg fs=false:=by
 have:¬(fs.map me).Nodup:=fun z=>by
  obtain⟨hi,e'⟩:=Y' e;have e2:fs=fs.take i++f::fs.drop (i+1):=by
   rw[←e',List.getElem_cons_drop,List.take_append_drop]
  rw[e2,List.map_append,List.map_cons,List.nodup_append]at z;exact z.2.2 _ h _ (List.mem_cons_self) rfl
 simp[fg,this]
theorem Bw{fs:List Form}{i:Nat}{f:Form}(e:fs[i]?=some f):(fs.take (i+1)).map kZ=(fs.take i).map kZ++[kZ f]:=by
 rw[List.take_succ,e,List.map_append];rfl
theorem M8{fs:List Form}{k:List Key}(h:bu (fs.map kZ) k=none):k∉fs.map me:=by
 have:=xo h;rwa[Ad]at this
theorem JS{fs:List Form}{k:List Key}{v:V}(h:bu (fs.map kZ) k=some v):k∈fs.map me:=by
 have:=ZS h;rwa[Ad]at this
structure Dp(K:W.Frag)(C:Addr):Prop where
 cl:vf K C
 same:bR K C "same"
 out:bR K C "out"
 into:bR K C "into"
 least:bR K C "least"
 part:bR K C "part"
 near:bR K C "near"
 Dq:bR K C "prices"
structure Nums where
 same:Int
 out:Int
 into:Int
 least:Int
 part:Int
def iM(n:Nums):Bool:=inR 1 n.same 999999&&inR 0 n.out 999999&&inR 0 n.into 999999&&inR 1 n.least 999999&&inR 1 n.part 100
def vA(n:Nums)(l d:Addr):List (Str×V):=[("same", .int n.same),("out", .int n.out),("into", .int n.into),("least", .int n.least),("part", .int n.part),("near", .ref l),("prices", .ref d)]
def mE(n:Nums):List (Str×V):=[("same", .int n.same),("out", .int n.out),("into", .int n.into),("least", .int n.least),("part", .int n.part)]
def SameBut(x:Addr)(H H':Hp):Prop:=∀b u,b≠x→H b=some u→H' b=some u
structure j6(H:Hp)(C x:Addr)(n:Nums)(fs:List Form)(dx l d:Addr)(xs:List V):Prop where
 ob:H x=some (.ins C dx (vA n l d))
 own:H dx=some (.own x)
 li:H l=some (.lst xs)
 tr:kz H xs fs
 di:H d=some (.dT (fs.map kZ))
def M9(H:Hp)(v:V)(xs:List V)(fs:List Form):Prop:=(v= .cn∧xs=[]∧fs=[])∨∃a,v= .ref a∧H a=some (.lst xs)∧kz H xs fs
inductive rq(C CT CN:Addr)(vs:List V)(H:Hp)(Q:VK)(E:XK):Prop
 |mk (x dx:Addr) (n:Nums) (nv:V) (xs:List V) (fs:List Form) (_:vs=[.ref x, .int n.same, .int n.out, .int n.into, .int n.least, .int n.part,nv]) (_:H x=some (.ins C dx [])) (_:H dx=some (.own x)) (_:M9 H nv xs fs) (_:Short fs) (_:(if iM n=true then(if fg fs=true then ∀H' l d,SameBut x H H'→j6 H' C x n fs dx l d xs→H l=none→H d=none→Q .cn H' else ∀H',SameBut x H H'→E (.ref CN) none H')else ∀H',SameBut x H H'→E (.ref CT) none H')):rq C CT CN vs H Q E
theorem Q7(n:Nums):bo "part" (.int n.part) (bo "least" (.int n.least) (bo "into" (.int n.into) (bo "out" (.int n.out) (bo "same" (.int n.same) []))))=mE n:=by kernel_rfl
theorem Q8(n:Nums)(l d:Addr):bo "prices" (.ref d) (bo "near" (.ref l) (mE n))=vA n l d:=by kernel_rfl
theorem M_(n:Nums)(l:Addr):(bo "near" (.ref l) (mE n)).lookup ("near":Str)=some (V.ref l):=by kernel_rfl
theorem SameBut.refl{x:Addr}{H:Hp}:SameBut x H H:=fun _ _ _ h=>h
theorem SameBut.upd{x:Addr}{H H':Hp}{o:HO}(s:SameBut x H H'):SameBut x H (upd H' x o):=fun b u n h=>by rw[ai n];exact s b u n h
theorem SameBut.same{x:Addr}{H H' H2:Hp}(s:SameBut x H H')(t:ar H' H2):SameBut x H H2:=fun b u n h=>t b u (s b u n h)
theorem SameBut.laid{x a:Addr}{H H':Hp}{o:HO}(s:SameBut x H H')(h:H a=none):SameBut x H (L2.upd H' a o):=fun b u n e=>by rw[ai (aA e h)];exact s b u n e
theorem SameBut.free{x l:Addr}{H H':Hp}{o:HO}(s:SameBut x H H')(hx:H' x=some o)(h:H' l=none):H l=none:=by
 cases e:H l with
 |none=>rfl
 |some u=>
  have n:l≠x:=fun z=>by rw[z,hx]at h;cases h
  rw[s l u n e]at h;cases h
theorem kz.but{x:Addr}{H H':Hp}{xs:List V}{fs:List Form}{C dx:Addr}{gs:List (Str×V)}(t:kz H xs fs)(s:SameBut x H H')(hx:H x=some (.ins C dx gs)):kz H' xs fs:=
 ⟨t.1,fun i f e=>let ⟨b,h1,h2⟩:=t.2 i f e;⟨b,h1,s _ _ (fun z=>by rw[z,hx]at h2;cases h2) h2⟩⟩
def Fits(K:W.Frag)(C:Addr)(Ds:List Addr)(j:Nat):Prop:=(∀(i:Nat)(D:Addr),Ds[i]?=some D→W.kitOne K (.ref C) (.ref D)=some (decide (i=j)))∧W.kitOne K (.ref C) (.type "ValueError")=some true
def fl(j:Nat):List V:=[.bl (decide (0=j)), .bl (decide (1=j)), .bl (decide (2=j)), .bl (decide (3=j)), .bl (decide (4=j)), .bl (decide (5=j)), .bl (decide (6=j)), .bl (decide (7=j)), .bl (decide (8=j)), .bl (decide (9=j)), .bl (decide (10=j)), .bl (decide (11=j)), .bl (decide (12=j)), .bl (decide (13=j))]
def kinds:List Str:=["word","book","terms","near","way","name","year","taken","full","many","no book","no finding","left","search","another"]
def kindOf(j:Nat):Str:=kinds.getD j ""
theorem Ae(j:Nat):(fl j).all gy=true:=rfl
theorem Dr{j:Nat}(h:j<14):(fl j).countP (fun z=>kU z (.bl true))=1:=by
 have:∀j<14,(fl j).countP (fun z=>kU z (.bl true))=1:=Zv;exact this j h
theorem Na{j:Nat}(h:j<14):∃hj:j<(fl j).length,kU (fl j)[j] (.bl true)=true:=by
 have:∀j (h:j<14),kU ((fl j)[j]'h) (.bl true)=true:=Zv;exact⟨h,this j h⟩
theorem Nb{j:Nat}(h:j<14):∀m (hm:m<(fl j).length),m<j→kU (fl j)[m] (.bl true)=false:=by
 have:∀j (h:j<14),∀m (hm:m<14),m<j→kU ((fl j)[m]'hm) (.bl true)=false:=Zv;exact fun m hm hl=>this j h m hm hl
theorem Gi{j:Nat}(h:j<14):tN (kinds.map V.str) (j:Int)=some (.str (kindOf j)):=by
 refine aF ?_;have hk:kinds.length=15:=rfl;have:j<kinds.length:=by lia
 rw[List.getElem?_map,List.getElem?_eq_getElem this];simp[kindOf,this]
inductive vB(K:W.Frag)(Ds:List Addr)(vs:List V)(H:Hp)(Q:VK)(u3:XK):Prop
 |mk (x C:Addr) (j:Nat) (_:vs=[.ref x]) (_:H x=some (.exc x C)) (_:qJ K C) (_:j<14) (_:Fits K C Ds j) (_:∀H',ar H H'→Q (.str (kindOf j)) H'):vB K Ds vs H Q u3
theorem int_at(is:List Int){i:Int}(h0:0≤i)(h:i<(is.length:Int)):∃m,m∈is∧tN (is.map V.int) i=some (.int m):=by
 obtain⟨j,rfl⟩:=Int.eq_ofNat_of_zero_le h0;have hj:j<is.length:=by lia
 exact⟨is[j],List.getElem_mem hj,aF (by simp[hj])⟩
theorem Dt(n:Nums)(l d:Addr):(vA n l d).lookup ("same":Str)=some (V.int n.same):=by kernel_rfl
theorem l_out(n:Nums)(l d:Addr):(vA n l d).lookup ("out":Str)=some (V.int n.out):=by kernel_rfl
theorem JT(n:Nums)(l d:Addr):(vA n l d).lookup ("into":Str)=some (V.int n.into):=by kernel_rfl
theorem Gj(n:Nums)(l d:Addr):(vA n l d).lookup ("least":Str)=some (V.int n.least):=by kernel_rfl
theorem Du(n:Nums)(l d:Addr):(vA n l d).lookup ("prices":Str)=some (V.ref d):=by kernel_rfl
theorem vC(n:Nums)(l d:Addr):(vA n l d).lookup ("pair_worth":Str)=none:=by kernel_rfl
theorem Fits.mk{K:W.Frag}{C D0 D1 D2 D3 D4 D5 D6 D7 D8 D9 Tv Tw Tx Tz:Addr}{j:Nat}(h0:W.kitOne K (.ref C) (.ref D0)=some (decide (0=j)))(h1:W.kitOne K (.ref C) (.ref D1)=some (decide (1=j)))(h2:W.kitOne K (.ref C) (.ref D2)=some (decide (2=j)))(h3:W.kitOne K (.ref C) (.ref D3)=some (decide (3=j)))(h4:W.kitOne K (.ref C) (.ref D4)=some (decide (4=j)))(h5:W.kitOne K (.ref C) (.ref D5)=some (decide (5=j)))(h6:W.kitOne K (.ref C) (.ref D6)=some (decide (6=j)))(h7:W.kitOne K (.ref C) (.ref D7)=some (decide (7=j)))(h8:W.kitOne K (.ref C) (.ref D8)=some (decide (8=j)))(h9:W.kitOne K (.ref C) (.ref D9)=some (decide (9=j)))(Wh:W.kitOne K (.ref C) (.ref Tv)=some (decide (10=j)))(Wi:W.kitOne K (.ref C) (.ref Tw)=some (decide (11=j)))(Wj:W.kitOne K (.ref C) (.ref Tx)=some (decide (12=j)))(Wl:W.kitOne K (.ref C) (.ref Tz)=some (decide (13=j)))(hv:W.kitOne K (.ref C) (.type "ValueError")=some true):Fits K C [D0,D1,D2,D3,D4,D5,D6,D7,D8,D9,Tv,Tw,Tx,Tz] j:=by
 refine⟨fun i D e=>?_,hv⟩
 match i,e with
 |0,e=>cases e;exact h0
 |1,e=>cases e;exact h1
 |2,e=>cases e;exact h2
 |3,e=>cases e;exact h3
 |4,e=>cases e;exact h4
 |5,e=>cases e;exact h5
 |6,e=>cases e;exact h6
 |7,e=>cases e;exact h7
 |8,e=>cases e;exact h8
 |9,e=>cases e;exact h9
 |10,e=>cases e;exact Wh
 |11,e=>cases e;exact Wi
 |12,e=>cases e;exact Wj
 |13,e=>cases e;exact Wl
 |n+14,e=>simp at e
end QF
namespace L2
open PySem PySem.Spec PyProof.Rows PySem.W PySem.Calls
section
variable{X:Cx}
end
end L2
namespace QF
open PySem L2
theorem Q9{α:Type}{xs:List α}{i:Nat}{v:α}(h:xs[i]?=some v):tN xs (0+(i:Int))=some v:=by
 rw[Int.zero_add];exact aF h
def nV(fs:List Form)(x y:Str):Option Int:=(fs.find? fun f=>decide (f.1=x∧f.2.1=y)).map (·.2.2)
def jJ(same:Int)(fs:List Form)(x y:Str):Option Int:=if x=y then some same else(nV fs x y).map (same-·)
def bJ:Option Int→V
 |none=> .cn
 |some i=> .int i
theorem Af(f:Form)(x y:Str):me f=[.inr x, .inr y]↔f.1=x∧f.2.1=y:=by simp[me]
theorem uR(x y:Str):∀fs:List Form,bu (fs.map kZ) [.inr x, .inr y]=(nV fs x y).map V.int
 |[]=>rfl
 |f::r=>by
  rw[List.map_cons];by_cases h:me f=[.inr x, .inr y]
  ·have h':=(Af f x y).mp h;rw[cy (show(kZ f).1=_ from h)];simp[nV,List.find?_cons,h'.1,h'.2,kZ]
  ·have h':¬(f.1=x∧f.2.1=y):=fun z=>h ((Af f x y).mpr z)
   rw[cf (show ¬(kZ f).1=_ from h),uR x y r];simp[nV,List.find?_cons,h']
inductive vD(C:Addr)(vs:List V)(H:Hp)(Q:VK)(u3:XK):Prop
 |mk (t:Addr) (x y:Str) (n:Nums) (fs:List Form) (dx l d:Addr) (xs:List V) (_:vs=[.ref t, .str x, .str y]) (_:j6 H C t n fs dx l d xs) (_:∀H',ar H H'→Q (bJ (jJ n.same fs x y)) H'):vD C vs H Q u3
abbrev Nc:Str:=Str.ofString "abcdefghijklmnopqrstuvwxyz"
theorem Gk:Nc.length=26:=by decide+kernel
theorem nW(x y:Str):(x++y).cps.toList=x.cps.toList++y.cps.toList:=by
 show(x.cps++y.cps).toList=_;simp
def dR(H H':Hp):Prop:=∀t v,H t=some (.tup v)→H' t=some (.tup v)
theorem dR.same{H H':Hp}(s:ar H H'):dR H H':=fun t v h=>s _ _ h
theorem dR.lst{H:Hp}{l:Addr}{xs:List V}{o:HO}(h:H l=some (.lst xs)):dR H (upd H l o):=fun t v e=>by
 rw[ai (iI e h (by intro z;cases z))];exact e
theorem Gm{n j:Nat}(h:j<n):CV n (j:Int)=some j:=by
 unfold CV;rw[Zi Zq,Zi Zq];simp
theorem Gp:Nc.cps.toList=(List.range 26).map (97+·):=by decide+kernel
theorem Dv{r:Int}:tN Nc.cps.toList (r%26)=some (97+(r%26).toNat):=by
 have h0:0≤r%26:=by lia
 have h1:r%26<26:=by lia
 generalize r%26=m at h0 h1;obtain⟨j,rfl⟩:=Int.eq_ofNat_of_zero_le h0;refine aF ?_;have hj:j<26:=by lia
 rw[Gp];simp[hj]
theorem Ag(r:Int):low (97+(r%26).toNat)=true:=by
 have h1:(r%26).toNat≤25:=by lia
 simp[low]
 lia
def lows(z:Str):Prop:=z.cps.toList.all low=true
def jK(bM:Str)(cell other:Int)(k:Nat):Str:=
 let size:=1+cell/2%12
 if cell%2=1 then Txt.slice bM none (some (1+(size+k)%12))
 else Txt.slice bM none (some (other%size))++⟨#[97+((other/12+k)%26).toNat]⟩++Txt.slice bM (some (other%size+1)) (some size)
theorem vE{n d:Nat}{v:Int}(h0:0≤v)(h:v≤n):HT.uI n d (some v)=v.toNat:=by
 simp only[HT.uI];split<;>lia
theorem k8{z:Str}{v:Int}(h0:0≤v)(h:v≤z.length):(Txt.slice z none (some v)).cps.toList=z.cps.toList.take v.toNat:=by
 rw[uN,vE h0 h,HT.CS];simp
theorem Dx{z:Str}{u v:Int}(h0:0≤u)(h1:u≤v)(h:v≤z.length):(Txt.slice z (some u) (some v)).cps.toList=(z.cps.toList.drop u.toNat).take (v.toNat-u.toNat):=by
 rw[uN,vE h0 Zq,vE Zq h]
theorem len_list(z:Str):z.cps.toList.length=z.length:=by simp[Str.length]
theorem Dy{z:Str}(h1:1≤z.length)(h2:z.length≤12)(h:lows z):vx z=true:=by
 have h:z.cps.toList.all low=true:=h;simp[vx,h1,h2,h]
theorem Dz{bM:Str}(hl:bM.length=12)(hs:lows bM)(cell other:Int)(k:Nat):vx (jK bM cell other k)=true:=by
 have kK:=List.all_eq_true.mp hs;have Lr:=len_list bM;have z0:1≤1+cell/2%12∧1+cell/2%12≤12:=by lia
 unfold jK;simp only;generalize 1+cell/2%12=size at z0;split
 ·have z1:1≤1+(size+(k:Int))%12∧1+(size+(k:Int))%12≤12:=by lia
  generalize 1+(size+(k:Int))%12=m at z1;have e:=k8 (z:=bM) (v:=m) (by lia) (by lia);have el:(Txt.slice bM none (some m)).length=m.toNat:=by rw[←len_list,e,List.length_take,Lr];lia
  refine Dy Zq (by lia) ?_;unfold lows;rw[e,List.all_eq_true];exact fun c hc=>kK c (List.mem_of_mem_take hc)
 ·have z1:0≤other%size∧other%size<size:=⟨Int.emod_nonneg _ (by lia),Int.emod_lt_of_pos _ (by lia)⟩
  generalize other%size=iX at z1;have e1:=k8 (z:=bM) (v:=iX) (by lia) (by lia);have e2:=Dx (z:=bM) (u:=iX+1) (v:=size) (by lia) (by lia) (by lia);have l1:(Txt.slice bM none (some iX)).length=iX.toNat:=by rw[←len_list,e1,List.length_take,Lr];lia
  have l2:(Txt.slice bM (some (iX+1)) (some size)).length=size.toNat-(iX+1).toNat:=by rw[←len_list,e2,List.length_take,List.length_drop,Lr];lia
  have el:(Txt.slice bM none (some iX)++(⟨#[97+((other/12+(k:Int))%26).toNat]⟩:Str)++Txt.slice bM (some (iX+1)) (some size)).length=size.toNat:=by
   rw[len_app,len_app,l1,l2];show iX.toNat+1+_=_
   lia
  refine Dy Zq (by lia) ?_;unfold lows;rw[nW,nW,e1,e2,List.all_append,List.all_append];have a1:(bM.cps.toList.take iX.toNat).all low=true:=List.all_eq_true.mpr fun c hc=>kK c (List.mem_of_mem_take hc)
  have a2:((bM.cps.toList.drop (iX+1).toNat).take (size.toNat-(iX+1).toNat)).all low=true:=List.all_eq_true.mpr fun c hc=>kK c (List.mem_of_mem_drop (List.mem_of_mem_take hc))
  have a3:=Ag (other/12+(k:Int));rw[a1,a2];simp[a3]
theorem JU{A B:List Nat}{c:Nat}:(A++[c]++B)[A.length]?=some c:=Zx
theorem DA{bM:Str}(hl:bM.length=12)(cell other:Int){k k':Nat}(hk:k<12)(DB:k'<12)(e:jK bM cell other k=jK bM cell other k'):k=k':=by
 have Lr:=len_list bM;have z0:1≤1+cell/2%12∧1+cell/2%12≤12:=by lia
 unfold jK at e;simp only at e;generalize 1+cell/2%12=size at z0 e;split at e
 ·have e:=congrArg (fun z:Str=>z.cps.toList.length) e;rw[k8 Zq (by lia),k8 Zq (by lia),List.length_take,List.length_take,Lr,hl]at e
  lia
 ·have z1:0≤other%size∧other%size<size:=⟨Int.emod_nonneg _ (by lia),Int.emod_lt_of_pos _ (by lia)⟩
  generalize other%size=iX at z1 e;have e1:=k8 (z:=bM) (v:=iX) (by lia) (by lia);have l1:(bM.cps.toList.take iX.toNat).length=iX.toNat:=by rw[List.length_take,Lr];lia
  have at_:∀c:Nat,(Txt.slice bM none (some iX)++(⟨#[c]⟩:Str)++Txt.slice bM (some (iX+1)) (some size)).cps.toList[iX.toNat]?=some c:=fun c=>by
   rw[nW,nW,e1];have:=JU (A:=bM.cps.toList.take iX.toNat) (B:=(Txt.slice bM (some (iX+1)) (some size)).cps.toList) (c:=c);rw[l1]at this;exact this
  have e:=congrArg (fun z:Str=>z.cps.toList[iX.toNat]?) e;have e2:=(at_ _).symm.trans (e.trans (at_ _));have e3:=Zp e2
  lia
theorem yT{bM:Str}(hl:bM.length=12)(cell other:Int){n:Nat}(hn:n≤12):((List.range n).map (jK bM cell other)).Nodup:=by
 refine List.pairwise_map.mpr ?_;refine List.Pairwise.imp_of_mem (R:=fun a b=>a≠b) (fun{a b} ha hb h e=>h ?_) List.nodup_range;exact DA hl cell other (by have:=List.mem_range.mp ha;lia) (by have:=List.mem_range.mp hb;lia) e
inductive vF(vs:List V)(H:Hp)(Q:VK)(u3:XK):Prop
 |mk (cell other many:Int) (_:vs=[.int cell, .int other, .int many]) (_:0≤many) (_:many≤12) (_:∀H' b (zs:List Str),ar H H'→H b=none→H' b=some (.lst (zs.map V.str))→zs.length=many.toNat→(∀z∈zs,vx z=true)→zs.Nodup→Q (.ref b) H'):vF vs H Q u3
theorem Ah{zs:List Str}{i:Nat}{v:V}(h:(zs.map V.str)[i]?=some v):∃x,zs[i]?=some x∧v= .str x:=by
 rw[List.getElem?_map]at h;cases e:zs[i]? with
 |none=>rw[e]at h;cases h
 |some x=>rw[e]at h;exact⟨x,rfl,(Zp h).symm⟩
def sw(f:Form):Form:=(f.2.1,f.1,f.2.2)
theorem j6.same{H H':Hp}{C x:Addr}{n:Nums}{fs:List Form}{dx l d:Addr}{xs:List V}(T:j6 H C x n fs dx l d xs)(s:ar H H'):j6 H' C x n fs dx l d xs:=⟨s _ _ T.ob,s _ _ T.own,s _ _ T.li,T.tr.same s,s _ _ T.di⟩
theorem SameBut.yU{x dx C:Addr}{H H':Hp}(hx:H x=none)(Fh:H dx=none)(s:SameBut x (L2.upd (L2.upd H dx (.own x)) x (.ins C dx [])) H'):ar H H':=fun b u e=>by
 have n1:b≠x:=aA e hx;have n2:b≠dx:=aA e Fh;exact s b u n1 (by rw[ai n1,ai n2];exact e)
end QF
namespace L2
open PySem PySem.Spec PyProof.Rows PySem.W PySem.Calls
section
variable{X:Cx}{pins:List (Addr×Obj)}{σ:St}{H:Hp}{s:Shared}{h':Heap}
theorem Inv.Gq{t':Nat}{fp:List Addr}(I:Inv X pins σ H s)(hf:∀b∈fp,ic X pins H b)(k:∀b o,b∉fp→s.heap.get? b=some o→h'.get? b=some o):Inv X pins σ H {s with heap:=h',toks:=t'}:=by
 have Hs:∀b u,H b=some u→b∉fp:=fun b u e z=>by rw[(hf b z).1]at e;cases e
 refine I.step (g':=s.gens) (d':=s.drawn) (ch:=fp) (fun b hb=>?_) (fun b o _ _ hc e _=>k b o hc e) (fun b o _ _ hc e _=>⟨o.slots,k b o hc e⟩) (fun _ _ _ _ n=>n)
  (fun b o hc e=>⟨o,k b o hc e⟩) (fun _ _ e=>e) (fun _ _ _ e=>e) (fun b ps e=>⟨#[],by rw[e];simp⟩) (fun m hm=>?_) (fun b u e=>?_) I.bare
 ·obtain⟨_,f1,_,f3,f4,f5⟩:=hf b hb;exact⟨f3,f1,f4,f5⟩
 ·obtain⟨o,es,ep,ho,r⟩:=hm;exact⟨o,es,ep,k _ o (fun z=>(hf _ z).2.1 rfl) ho,r⟩
 ·refine(I.bH b u e).rE (fun c v hc q=>k c v ?_ q) (fun _ q=>q) fun _ _ q=>q
  rcases hc with z|z
  ·rw[z];exact Hs b u e
  ·exact Hs c _ z
theorem Inv.Ai{t':Nat}{fp:List Addr}{T:Addr}{u:HO}(I:Inv X pins σ H s)(hf:∀b∈fp,ic X pins H b)(hT:ic X pins H T)(k:∀b o,b∉fp→s.heap.get? b=some o→h'.get? b=some o)
  (new:cB X.prog X.w (upd H T u) h' T u):Inv X pins σ (upd H T u) {s with heap:=h',toks:=t'}:=by
 have Hs:∀b u,H b=some u→b∉fp:=fun b u e z=>by rw[(hf b z).1]at e;cases e
 have nT:∀b v,H b=some v→b≠T:=fun b v e z=>by rw[z,hT.1]at e;cases e
 refine I.step (g':=s.gens) (d':=s.drawn) (ch:=T::fp) (fun b hb=>?_) (fun b o _ _ hc e _=>k b o (fun z=>hc (List.mem_cons_of_mem _ z)) e) (fun b o _ _ hc e _=>⟨o.slots,k b o (fun z=>hc (List.mem_cons_of_mem _ z)) e⟩) (fun b _ hc _ n=>?_)
  (fun b o hc e=>⟨o,k b o (fun z=>hc (List.mem_cons_of_mem _ z)) e⟩) (fun b xs e=>by rw[ai (nT b _ e)];exact e) (fun b o v e=>by rw[ai (nT b _ e)];exact e) (fun b ps e=>⟨#[],by rw[ai (nT b _ e),e];simp⟩) (fun m hm=>?_) (fun b v e=>?_) I.bare
 ·rcases List.mem_cons.mp hb with z|z
  ·subst z;obtain⟨_,f1,_,f3,f4,f5⟩:=hT;exact⟨f3,f1,f4,f5⟩
  ·obtain⟨_,f1,_,f3,f4,f5⟩:=hf b z;exact⟨f3,f1,f4,f5⟩
 ·rw[ai (fun z=>hc (by simp[z]))];exact n
 ·obtain⟨o,es,ep,ho,r⟩:=hm;exact⟨o,es,ep,k _ o (fun z=>(hf _ z).2.1 rfl) ho,r⟩
 ·by_cases hb:b=T
  ·subst hb;rw[ae]at e;cases e;exact new
  ·rw[ai hb]at e;refine(I.bH b v e).rE (fun c v' hc q=>k c v' ?_ q) (fun c q=>by rw[ai (nT c _ q)];exact q) fun c xs q=>by rw[ai (nT c _ q)];exact q
   rcases hc with z|z
   ·rw[z];exact Hs b v e
   ·exact Hs c _ z
theorem Inv.swap{d:Addr}{u u':HO}(I:Inv X pins σ H s)(e:H d=some u)(ht:∀xs,u≠ .tup xs)(ho:∀x,u≠ .own x)(hb:∀ps,u≠ .Fw ps)(hf:∀o v,X.eD d≠some (.q_ o v))(new:cB X.prog X.w (upd H d u') s.heap d u'):Inv X pins σ (upd H d u') s:=by
 have nd:∀b,H b=none→b≠d:=fun b n z=>by rw[z,e]at n;cases n
 have nt:∀b xs,H b=some (.tup xs)→b≠d:=fun b xs q z=>by rw[z,e]at q;cases q;exact ht xs rfl
 have no:∀b x,H b=some (.own x)→b≠d:=fun b xs q z=>by rw[z,e]at q;cases q;exact ho xs rfl
 refine⟨I.ok,I.os,I.bare,⟨I.base.keep,I.base.slot,fun b o q n hx=>?_,I.base.there,fun b xs q=>?_,fun b o v q=>?_,fun b ps q=>?_⟩,I.loc,I.cell,?_,fun x c q=>?_,fun p hp=>?_,fun b v q=>?_,I.len⟩
 ·have z:=I.base.free b o q n hx;rw[ai (nd b z)];exact z
 ·have z:=I.base.cw b xs q;rw[ai (nt b xs z)];exact z
 ·have z:=I.base.kM b o v q;rw[ai (fun y=>by subst y;exact hf o v q)];exact z
 ·obtain⟨m,z⟩:=I.base.mM b ps q;exact⟨m,by rw[ai (fun y=>by rw[y,e]at z;cases z;exact hb _ rfl)];exact z⟩
 ·rw[ai (nd _ I.free)];exact I.free
 ·rw[ai (nd _ (I.ip x c q))];exact I.ip x c q
 ·obtain⟨p1,p2,p3⟩:=I.pin p hp;exact⟨p1,by rw[ai (nd _ p2)];exact p2,p3⟩
 ·by_cases TC:b=d
  ·subst TC;rw[ae]at q;cases q;exact new
  ·rw[ai TC]at q;exact(I.bH b v q).rE (fun c v' _ z=>z) (fun c z=>by rw[ai (no c _ z)];exact z) fun c xs z=>by rw[ai (nt c _ z)];exact z
end
def Ls(K:Frag)(a:Addr):It:=
 ⟨fun i H=>∃xs x,jC K H a xs∧xs[i]?=some x,fun i H x H'=>∃T y,x= .ref T∧H T=none∧H'=upd H T (.tup [.int i,y])∧∀xs,jC K H a xs→xs[i]?=some y,fun i H=>∃xs,jC K H a xs∧xs.length≤i⟩
theorem Bx{P:Program}{w:World}{K:Frag}{elts:List Expr}{n:Nat}{pos:Pos}(a e it:Addr)(dE:e≠it):
  Turn P w K (.Tuple elts n pos) (Ls K a) [e,it] e (fun i h=>(∃old,IsEnum h e it (i:Nat) old)∧h.IsListIter it a i) where
 mem:=Zx
 obj:=fun i h st b hb=>by
  obtain⟨⟨old,s1⟩,o,s2,_,s3⟩:=st;rcases List.mem_cons.mp hb with z|z
  ·subst z;exact⟨_,s1,fun v z=>by
    have z':Data.fields _=Data.cell v:=z;cases z'⟩
  ·have e:b=it:=by simpa using z
   subst e;exact⟨o,s2,fun v z=>by rw[s3]at z;cases z⟩
 keep:=fun i h h' st k=>⟨⟨st.1.choose,k e Zr _ st.1.choose_spec⟩,st.2.at fun o q=>k it (Zx) o q⟩
 item:=by
  intro X hP hw hK hc i pins s σ H E I hf st hg;subst hP hw hK;obtain⟨xs,x,hq,hx⟩:=hg;obtain⟨⟨old,s1⟩,s2⟩:=st;obtain⟨its,rv,p,hz⟩:=I.list hq;obtain⟨u,hu,ru⟩:=rv.get hx;refine wpAny_pyNext_enum_item s1 s2 p.isList (x:=u) (by simpa using hu) dE fun h' o1 o2 o3 o4 o5=>?_
  refine⟨_,rfl,wpAny_letOwnedTupleGo_enum (s:={s with heap:=h',toks:=s.toks+1}) o1 fun h2 q1 q2=>?_⟩;have Lo:h2.get? s.heap.objs.size=some {cls:=Value.type "tuple",data:=Data.seq #[Value.int (↑i) s.toks,u]}:=by
   exact(q2.2 _ (Nat.ne_of_gt (Heap.lt_size s1))).trans o3
  have hT:ic X pins H s.heap.objs.size:=I.tS (Nat.le_refl _) (I.bH.fresh (Nat.le_refl _));have I1:Inv X pins σ (upd H s.heap.objs.size (.tup [.int i,x])) {s with heap:=h2,toks:=s.toks+1}:=by
   refine I.Ai hf hT (fun b o hb q=>?_) ⟨by simp[sizeLine],[Value.int (↑i) s.toks,u], .cons ⟨_,rfl⟩ (.cons ru .nil),?_⟩
   ·have b1:b≠e:=fun z=>hb (by simp[z])
    have b2:b≠it:=fun z=>hb (by simp[z])
    exact(q2.2 b b1).trans (o5 b o b1 b2 q)
   ·exact⟨_,Lo,rfl,_,rfl⟩
  refine⟨.ref s.heap.objs.size,_,I1,rfl,⟨_,x,rfl,hT.1,rfl,fun ys hy=>by rw[I.w8 hy hq];exact hx⟩,⟨⟨u,by simpa using q1⟩,o2.at fun o q=>(q2.2 it (Ne.symm dE)).trans q⟩,fun b hb=>?_⟩;rw[ai (fun z=>?_)]
  ·exact(hf b hb).1
  ·have h1:=Heap.lt_size s1;obtain⟨_,h2,_⟩:=s2;have h3:=Heap.lt_size h2;rcases List.mem_cons.mp hb with y|y
   ·rw[z.symm.trans y]at h1;exact absurd h1 (Nat.lt_irrefl _)
   ·have:b=it:=by simpa using y
    rw[z.symm.trans this]at h3;exact absurd h3 (Nat.lt_irrefl _)
 done:=by
  intro X hP hw hK hc i pins s σ H E I hf st hg;subst hP hw hK;obtain⟨xs,hq,hx⟩:=hg;obtain⟨⟨old,s1⟩,s2⟩:=st;obtain⟨its,rv,p,hz⟩:=I.list hq;have hl:=rv.length;exact wpAny_pyNext_enum_end (I.ok.hd hc) s1 s2 p.isList (by simp;lia) fun h' eb=>⟨rfl,I.Gq (t':=s.toks) hf (fun b o hb q=>eb b o (fun z=>hb (by simp[z])) q)⟩
 self:=fun _ _ _ _ _ st h=>wpAny_pyIter_enum st.1.choose_spec h
section
variable{X:Cx}{tg:Expr}
def HS(K:Frag)(ta:TA):TI:=fun σ H R=>ta σ H fun vs H1=>∃a,vs=[.ref a]∧(∃xs,jC K H1 a xs)∧R (Ls K a) H1
theorem Gr{elts:List Expr}{n:Nat}{tp:Pos}{a:Expr}{ta:TA}{p pos:Pos}(hg:Gl X "enumerate")(hm:X.mg "enumerate"=none)(ha:PA X [a] ta)(hs:starEach [a] X.env=[(false,eval a X.env)]:=by rfl):
  PI X (.Tuple elts n tp) (.Call (.Name "enumerate" p) [a] [] pos) (HS X.K ta):=by
 intro pins s σ H R I h;refine Call_ (jZ I hg hm boot_enumerate (PyProof.Rows.callWith_type1 (cz (ha pos pins s σ H _ I h) fun us s1 ⟨vs,H1,I1,r1,q1⟩=>?_) hs rfl));obtain⟨l,e,⟨xs,hq⟩,q⟩:=q1;subst e;cases r1 with
 |cons r rr=>
  cases rr;cases r;obtain⟨its,rv,p,hz⟩:=I1.list hq;refine call_enumerate_list p.isList fun h' o1 o2 o3 o4=>?_
  refine wpAny_pyIter_enum (s:={s1 with heap:=h'}) o1 ?_;refine⟨s1.heap.objs.size+1,[s1.heap.objs.size+1,s1.heap.objs.size],_,_,H1,rfl,I1.kept (t':=s1.toks) o4,Bx l _ _ (Nat.succ_ne_self _),⟨⟨_,o1⟩,o2⟩,fun b hb=>?_,q⟩;have Lu:s1.heap.objs.size≤b:=by
   rcases List.mem_cons.mp hb with y|y
   ·rw[y];exact Nat.le_succ _
   ·have:b=s1.heap.objs.size:=by simpa using y
    exact Nat.le_of_eq this.symm
  exact I1.tS Lu (I1.bH.fresh Lu)
end
theorem nX{X:Cx}(K:Frag){elts:List Expr}{n:Nat}{tp:Pos}{a:Expr}{ta:TA}{p pos:Pos}(hg:Gl X "enumerate")(hm:X.mg "enumerate"=none)(ha:PA X [a] ta)(hs:starEach [a] X.env=[(false,eval a X.env)]:=by rfl)(h:X.K=K:=by rfl):
  PI X (.Tuple elts n tp) (.Call (.Name "enumerate" p) [a] [] pos) (HS K ta):=h▸Gr hg hm ha hs
theorem xq{K:Frag}{a:Addr}{xs:List V}{g:TG}{tb:TS}{D:Ends}{σ:St}{H:Hp}(Pv:Nat→St→Hp→Prop)(h0:Pv 0 σ H)(hl:∀i σ H,i≤xs.length→Pv i σ H→jC K H a xs)
  (hs:∀i x T σ H,xs[i]?=some x→Pv i σ H→H T=none→g (.ref T) σ (upd H T (.tup [.int i,x])) fun fm H2=>tb {D with nx:=Pv (i+1),ct:=Pv (i+1),bk:=D.nx} fm H2) (hd:∀σ H,Pv xs.length σ H→D.nx σ H):
  ∃W:Nat→Nat→St→Hp→Prop,(∃m,W 0 m σ H)∧∀i m σ H,W i m σ H→
   ((Ls K a).stop i H∧D.nx σ H)∨((Ls K a).go i H∧∃N:St→Hp→Prop,(∀a7 H',N a7 H'→∃m',m'<m∧W (i+1) m' a7 H')∧∀x H',(Ls K a).FF i H x H'→g x σ H' fun fm H2=>tb {D with nx:=N,ct:=N,bk:=D.nx} fm H2):=by
 refine⟨fun i m σ H=>m=xs.length-i∧i≤xs.length∧Pv i σ H,⟨xs.length,Zx,Nat.zero_le _,h0⟩,?_⟩;rintro i m σ H ⟨rfl,hi,p⟩;have hq:=hl i σ H hi p;by_cases ie:i<xs.length
 ·refine .inr ⟨⟨xs,xs[i],hq,by simp[ie]⟩,Pv (i+1),fun a7 H' p'=>⟨xs.length-(i+1),by lia,rfl,ie,p'⟩,fun x H' y=>?_⟩;obtain⟨T,y,rfl,hT,rfl,hy⟩:=y;exact hs i y T σ H (hy xs hq) p hT
 ·have e:i=xs.length:=by lia
  subst e;exact .inl ⟨⟨xs,hq,Nat.le_refl _⟩,hd σ H p⟩
def NF(eD:Hp)(d:Addr):Prop:=∀o v,eD d≠some (.q_ o v)
section
variable{X:Cx}{tg:Expr}
end
end L2
namespace QF
open PySem L2
inductive yV(vs:List V)(H:Hp)(Q:VK)(u3:XK):Prop
 |mk (a b:Addr) (is:List Int) (_:vs=[.ref a, .ref b]) (_:H a=some (.lst (is.map V.int))) (_:H b=some (.lst (is.map V.int))) (_:is.length≤10000) (_:Q (.bl true) H):yV vs H Q u3
end QF
namespace L2
open PySem PySem.Spec PyProof.Rows PySem.W PySem.Calls
section
variable{X:Cx}
theorem Gs(K:Frag){T:String}{name:Str}{id:String}{r:V→List V→Hp→VK→Prop}{o:Expr}{apos dW:Pos}{to:TE}(pa:PlainAttrs T)(slot:Slot T name id)(Cd:typeOf (.builtin id)=pure (.type "method_descriptor"))(hm:OH X id r)(ho:PE X o to)
  (nL:attributeBase o name X.env (eval o X.env)=eval o X.env:=by rfl) (mB:(apos.endLine==dW.line)=true:=by rfl) (hK:X.K=K:=by rfl):PE X (.Call (.Attribute o name apos) [] [] dW) (Mz K T r to):=hK▸JB pa slot Cd hm ho nL mB
end
end L2
namespace QF
open PySem L2
def QS(c:Nat):Bool:=decide (65≤c)&&decide (c≤90)
def conv(c:Nat):Nat:=if low c=true then c else if QS c=true then c+32 else 32
abbrev great:Str:=Str.ofString "ABCDEFGHIJKLMNOPQRSTUVWXYZ"
def rd(st:KWd.St)(cs:List Nat):KWd.St:=(cs.map conv).foldl KWd.step st
abbrev both:Str:=Str.ofString "abcdefghijklmnopqrstuvwxyzABCDEFGHIJKLMNOPQRSTUVWXYZ"
abbrev marks:Str:=Str.ofString " .,-'0123456789!?()[]{}@`_~/:;<=>#$&*+|^\\\""
end QF
namespace L2
open PySem PySem.Spec PyProof.Rows PySem.W PySem.Calls
section
variable{X:Cx}
def TK(xs ys:List V)(f:Nat→Bool):Prop:=∀(j:Nat)(x y:V),xs[j]?=some x→ys[j]?=some y→(gy x=true∧gy y=true∧f j=kU x y)∨(∃a,x= .ref a∧y= .ref a∧f j=true)
theorem DC{A:Around}{s:Shared}{xs ys:List V}{its eG:List Value}{f:Nat→Bool}(r:Vals xs its)(r2:Vals ys eG)(h:TK xs ys f):
  ∀j (h1:j<its.toArray.size) (h2:j<eG.toArray.size),SeqAt.EqAt A s its.toArray[j] eG.toArray[j] (f j):=fun j h1 h2=>by
 have HU:j<xs.length:=by have:=r.length;simp at h1;lia
 have HV:j<ys.length:=by have:=r2.length;simp at h2;lia
 obtain⟨a1,e1,q1⟩:=r.get (i:=j) (x:=xs[j]) (by simp[HU]);obtain⟨a2,e2,q2⟩:=r2.get (i:=j) (x:=ys[j]) (by simp[HV]);have g1:its.toArray[j]=a1:=by simpa[List.getElem?_eq_some_iff]using(Y' e1).2
 have g2:eG.toArray[j]=a2:=by simpa[List.getElem?_eq_some_iff]using(Y' e2).2
 rw[g1,g2];rcases h j xs[j] ys[j] (by simp[HU]) (by simp[HV])with⟨f1,f2,ef⟩|⟨a,ex,ey,ef⟩
 ·rw[ef];exact rR q1 q2 f1 f2
 ·rw[ef];rw[ex]at q1;rw[ey]at q2;cases q1;cases q2;exact SeqAt.EqAt.same _
inductive Nd(K:Frag)(x:V)(y:V)(H:Hp)(Q:VK):Prop
 |mk (p:_) (q:_) (xs:_) (ys:_) (f:_) (_:x= .ref p) (_:y= .ref q) (_:jC K H p xs) (_:jC K H q ys) (_:TK xs ys f) (_:Q (.bl (decide (xs.length=ys.length)&&(List.range xs.length).all f)) H):Nd K x y H Q
theorem xr(K:Frag)(hu:X.A.units<cLine)(hK:X.K=K:=by rfl):rg X (compareOp .Eq) (Nd K):=by
 subst hK;intro pins s σ H x y v u Q I rx ry h;obtain⟨p,q,xs,ys,f,rfl,rfl,hp,hq,hf,k⟩:=h;cases rx;cases ry;obtain⟨its,r,pl,hz⟩:=I.list hp;obtain⟨eG,r2,JV,TL⟩:=I.list hq;have l1:=r.length;have l2:=r2.length;obtain⟨⟨cls,dd,data,sl⟩,ho,hc,n,hd⟩:=id pl.isList;obtain⟨⟨Gu,tP,data2,mC⟩,vG,qK,n2,hd2⟩:=id JV.isList;simp only at hc hd qK hd2;subst hc hd qK hd2;by_cases e:xs.length=ys.length
 ·have hsz:its.toArray.size=eG.toArray.size:=by rw[List.size_toArray,List.size_toArray];lia
  refine richCompare_meets_room (op:= .Eq) ⟨_,ho,rfl⟩ ⟨_,vG,rfl⟩ F.slot_list_eq F.entry_list_eq (F.args_list_eq_2 _ _) (SeqAt.list_eqAt p q its.toArray eG.toArray n n2 dd tP sl mC hsz f) ⟨ho,vG,DC r r2 hf,?_⟩ hu;rw[decide_eq_true e,Bool.true_and]at k;refine⟨(fun x=>nomatch x), .bl ((List.range xs.length).all f),H,I,?_,k⟩;rw[List.size_toArray,←l1];rfl
 ·have hsz:(its.toArray.size !=eG.toArray.size)=true:=by
   rw[List.size_toArray,List.size_toArray];simp;lia
  refine richCompare_meets_room (op:= .Eq) ⟨_,ho,rfl⟩ ⟨_,vG,rfl⟩ F.slot_list_eq F.entry_list_eq (F.args_list_eq_2 _ _) (SeqAt.list_eq_lengthsAt p q its.toArray eG.toArray n n2 dd tP sl mC hsz) ⟨ho,vG,?_⟩ hu;rw[decide_eq_false e,Bool.false_and]at k;exact⟨(fun x=>nomatch x), .bl false,H,I,rfl,k⟩
end
section
variable{X:Cx}
end
end L2
namespace QF
open PySem L2
abbrev Pr:=Int×Int
def jW(p:Pr):List V:=[.int p.1, .int p.2]
def fO(H:Hp)(vs:List V)(ps:List Pr):Prop:=vs.length=ps.length∧∀(i:Nat)(p:Pr),ps[i]?=some p→∃t,vs[i]?=some (V.ref t)∧H t=some (.tup (jW p))
theorem fO.nil{H:Hp}:fO H [] []:=⟨rfl,fun i f e=>by simp at e⟩
theorem fO.cw{H H':Hp}{xs:List V}{fs:List Pr}(T:fO H xs fs)(k:dR H H'):fO H' xs fs:=⟨T.1,fun i f e=>let ⟨b,h1,h2⟩:=T.2 i f e;⟨b,h1,k _ _ h2⟩⟩
theorem fO.same{H H':Hp}{xs:List V}{fs:List Pr}(t:fO H xs fs)(s:ar H H'):fO H' xs fs:=t.cw (dR.same s)
theorem fO.append{H:Hp}{xs ys:List V}{fs gs:List Pr}(T:fO H xs fs)(U:fO H ys gs):fO H (xs++ys) (fs++gs):=by
 refine⟨by simp[T.1,U.1],fun i p e=>?_⟩;by_cases h:i<fs.length
 ·rw[List.getElem?_append_left h]at e;obtain⟨b,h1,h2⟩:=T.2 i p e;exact⟨b,by rw[List.getElem?_append_left (by rw[T.1];exact h)];exact h1,h2⟩
 ·rw[List.getElem?_append_right Zq]at e;obtain⟨b,h1,h2⟩:=U.2 _ p e;exact⟨b,by rw[List.getElem?_append_right (by rw[T.1];lia),T.1];exact h1,h2⟩
theorem fO.one{H:Hp}{t:Addr}{p:Pr}(ht:H t=some (.tup (jW p))):fO H [.ref t] [p]:=by
 refine⟨rfl,fun i q e=>?_⟩
 match i,e with
 |0,e=>cases e;exact⟨t,rfl,ht⟩
 |i+1,e=>simp at e
theorem fO.snoc{H:Hp}{xs:List V}{fs:List Pr}{t:Addr}{f:Pr}(T:fO H xs fs)(ht:H t=some (.tup (jW f))):fO H (xs++[.ref t]) (fs++[f]):=T.append (.one ht)
def pr(ps:List Pr)(k:Nat):Pr:=ps.getD k (0,0)
theorem HW{ps:List Pr}{k:Nat}(h:k<ps.length):ps[k]?=some (pr ps k):=by
 simp[pr,h]
theorem fO.Q_{H:Hp}{xs:List V}{ps:List Pr}(T:fO H xs ps){k:Nat}(h:k<ps.length):∃t,xs[k]?=some (V.ref t)∧H t=some (.tup [.int (pr ps k).1, .int (pr ps k).2]):=T.2 k _ (HW h)
theorem Gv{ps:List Pr}{p:Pr}:pr (ps++[p]) ps.length=p:=by
 simp[pr,List.getD_eq_getElem?_getD]
structure Case where
 xs:List Str
 ys:List Str
 same:Int
 out:Int
 into:Int
 least:Int
 fs:List Form
def wd(xs:List Str)(i:Int):Option Str:=if 0≤i then xs[i.toNat]? else none
theorem DD{xs:List Str}{i:Nat}:wd xs (i:Int)=xs[i]?:=by simp[wd]
theorem Aj{xs:List Str}{i:Int}{x:Str}(h:wd xs i=some x):0≤i∧i<(xs.length:Int):=by
 unfold wd at h;split at h
 ·have:=(Y' h).1
  lia
 ·cases h
def Case.pw(c:Case)(p:Pr):Option Int:=(wd c.xs p.1).bind fun x=>(wd c.ys p.2).bind fun y=>jJ c.same c.fs x y
theorem Case.pw_of{c:Case}{p:Pr}{x y:Str}(h1:wd c.xs p.1=some x)(h2:wd c.ys p.2=some y):c.pw p=jJ c.same c.fs x y:=by simp[Case.pw,h1,h2]
theorem Case.pw_in{c:Case}{p:Pr}{w:Int}(h:c.pw p=some w):(0≤p.1∧p.1<(c.xs.length:Int))∧(0≤p.2∧p.2<(c.ys.length:Int)):=by
 unfold Case.pw at h;cases e1:wd c.xs p.1 with
 |none=>rw[e1]at h;cases h
 |some x=>
  cases e2:wd c.ys p.2 with
  |none=>rw[e1,e2]at h;cases h
  |some y=>exact⟨Aj e1,Aj e2⟩
theorem Case.pw_out{c:Case}{p:Pr}(h:¬((0≤p.1∧p.1<(c.xs.length:Int))∧(0≤p.2∧p.2<(c.ys.length:Int)))):c.pw p=none:=by
 cases e:c.pw p with
 |none=>rfl
 |some w=>exact absurd (c.pw_in e) h
def Case.gap(c:Case)(q p:Pr):Int:=c.out*(p.1-q.1-1)+c.into*(p.2-q.2-1)
def yW(H:Hp)(CT t:Addr)(c:Case):Prop:=∃n dx l d vs,j6 H CT t n c.fs dx l d vs∧n.same=c.same∧n.out=c.out∧n.into=c.into∧n.least=c.least
theorem yW.keep{H H':Hp}{CT t:Addr}{c:Case}(T:yW H CT t c)(s:ar H H'):yW H' CT t c:=by
 obtain⟨n,dx,l,d,vs,T,r⟩:=T;exact⟨n,dx,l,d,vs,T.same s,r⟩
inductive pL(vs:List V)(H:Hp)(Q:VK)(u3:XK):Prop
 |mk (a:Addr) (us:List V) (ps:List Pr) (_:vs=[.ref a]) (_:H a=some (.lst us)) (_:fO H us ps) (_:Q (.bl true) H):pL vs H Q u3
end QF
namespace L2
open PySem PySem.Spec PyProof.Rows PySem.W PySem.Calls
section
variable{pg:Program}{wd:World}{Ar:Around}{Rs:Result→Shared→Prop}{it:Addr}{fp wr:List Addr}{n:Nat}{Pv:Nat→Value→Prop}{Sv:Nat→Heap→Prop}
def vH:(toString "max"++toString ".loop":String)="max.loop":=Zv
theorem By(Wk:Walks pg wd Ar.in1 it fp wr n Pv Sv)(bt:Nat→Nat→Bool)(cmp:CmpOf pg wd Ar.in1 .Gt Pv bt)(B:Addr)(nb:B∉fp)(dv:Value):
  ∀(k j:Nat)(st:Shared)(old:List Value)(c:Nat),n-j=k→j≤n→Sv j st.heap→((j=0∧old=[])∨∃vb,0<j∧old=[vb,vb]∧Pv (argBest bt (j-1)) vb)→
  st.heap.get? B=some {cls:= .type "list",dict:=none,data:= .seq old.toArray c,slots:=#[]}→
  (∀v h' tk,((n=0∧v=dv)∨(0<n∧Pv (argBest bt (n-1)) v))→(∀b o,b∉wr→b≠B→st.heap.get? b=some o→h'.get? b=some o)→Rs (.ok (.ret v)) {st with heap:=h',toks:=tk})→
  codeAny (model pg wd) Ar (.builtin "max.loop" ⟨[.ref it, .none, .ref B],[("default",dv)]⟩) Rs st:=by
 have nw:B∉wr:=fun z=>nb (Wk.sub _ z)
 intro k
 induction k with
 |zero=>
  intro j st old c ek lj sv ol eB fin;have ej:j=n:=by lia
  subst ej;refine codeAny_builtin F.entry_max_loop ?_;rw[Around.under_plainId F.plain_max_loop _];show wpAny _ Ar.in1 (seqItems? (.ref B)>>=_) _ _ st;refine wpAny_bind (wpAny_seqItems eB rfl ?_);show wpAny _ Ar.in1 (tryCatch (pyNext (.ref it)) _>>=_) _ _ st;refine wpAny_bind (wpAny_tryCatch (Wk.done st _ _ sv fun h' tk kp=>?_));rcases ol with⟨z0,rfl⟩|⟨vb,z0,rfl,pb⟩
  ·refine wpAny_bind (wpAny_rule (wpAny_pure ?_));exact fin dv _ tk (.inl ⟨z0,rfl⟩) fun b o hb _ e=>kp b o hb e
  ·have JW:=kp B _ nw eB;show wpAny _ Ar.in1 (updateSeq B (fun _=>#[])>>=_) _ _ _;refine wpAny_bind ?_;refine wpAny_updateSeq JW rfl (wpAny_bind (wpAny_letGo (wpAny_pure ?_)));exact fin vb _ tk (.inr ⟨z0,pb⟩) fun b o hb hB e=>(Heap.get?_update_other _ _ (Ne.symm hB)).trans (kp b o hb e)
 |succ k ih=>
  intro j st old c ek lj sv ol eB fin;have lt:j<n:=by lia
  refine codeAny_builtin F.entry_max_loop ?_;rw[Around.under_plainId F.plain_max_loop _];show wpAny _ Ar.in1 (seqItems? (.ref B)>>=_) _ _ st;refine wpAny_bind (wpAny_seqItems eB rfl ?_);show wpAny _ Ar.in1 (tryCatch (pyNext (.ref it)) _>>=_) _ _ st;refine wpAny_bind (wpAny_tryCatch (Wk.item j st _ _ lt sv fun v h' tk pv Ra kp=>?_));have JW:=kp B _ nw eB;have up:∀(g:Array Value→Array Value)(b:Addr),b∈fp→∀o,h'.get? b=some o→(h'.update B (Obj.mapSeq g)).get? b=some o:=fun g b hb o e=>(Heap.get?_update_other _ _ (fun z:B=b=>nb (by rw[z];exact hb))).trans e
  rcases ol with⟨rfl,rfl⟩|⟨vb,z0,rfl,pb⟩
  ·show wpAny _ Ar.in1 (updateSeq B (fun _=>#[v,v])>>=_) _ _ _;refine wpAny_bind ?_;refine wpAny_updateSeq JW rfl ?_;rw[vH];refine wpAny_pure ⟨plainId_quiet F.plain_max_loop _,ih 1 _ [v,v] _ (by lia) lt (Wk.frame _ _ _ Ra (up _)) (.inr ⟨v,Zv,rfl,pv⟩) (Heap.get?_update_self _ JW rfl) fun v' h2 Nf pf Ng=>?_⟩;exact fin v' h2 Nf pf fun b o hb hB e=>Ng b o hb hB ((Heap.get?_update_other _ _ (Ne.symm hB)).trans (kp b o hb e))
  ·obtain⟨i,rfl⟩:∃i,j=i+1:=⟨j-1,by lia⟩
   have pb:Pv (argBest bt i) vb:=pb;show wpAny _ Ar.in1 (tryCatch (holding [v,v] (richCompare .Gt v vb>>=_)) _>>=_) _ _ _;refine wpAny_bind (wpAny_tryCatch (wpAny_holding (wpAny_bind (cmp (i+1) (argBest bt i) v vb _ _ _ pv pb ?_))));refine wpAny_bind (wpAny_holding (wpAny_truthy_bool ?_));refine wpAny_bind (wpAny_letGo (wpAny_pure ?_));cases hb:bt (i+1) (argBest bt i)with
   |true=>
    simp only[if_true];refine wpAny_bind ?_;refine wpAny_updateSeq JW rfl (wpAny_bind (wpAny_letGo ?_));rw[vH];refine wpAny_pure ⟨plainId_quiet F.plain_max_loop _,ih (i+2) _ [v,v] _ (by lia) lt (Wk.frame _ _ _ Ra (up _)) (.inr ⟨v,by lia,rfl,?_⟩) (Heap.get?_update_self _ JW rfl) fun v' h2 Nf pf Ng=>?_⟩
    ·show Pv (argBest bt (i+1)) v;simp only[argBest,hb,if_true];exact pv
    ·exact fin v' h2 Nf pf fun b o hb hB e=>Ng b o hb hB ((Heap.get?_update_other _ _ (Ne.symm hB)).trans (kp b o hb e))
   |false=>
    simp only[Bool.false_eq_true,if_false];refine wpAny_bind (wpAny_letGo ?_);rw[vH];refine wpAny_pure ⟨plainId_quiet F.plain_max_loop _,ih (i+2) _ [vb,vb] c (by lia) lt Ra (.inr ⟨vb,by lia,rfl,?_⟩) JW fun v' h2 Nf pf Ng=>?_⟩
    ·show Pv (argBest bt (i+1)) vb;simp only[argBest,hb,Bool.false_eq_true,if_false];exact pb
    ·exact fin v' h2 Nf pf fun b o hb hB e=>Ng b o hb hB (kp b o hb e)
theorem Bz(a d:Value):argsOk "max" ⟨[a],[("default",d)]⟩:=by unfold argsOk;kernel_rfl
end
section
variable{X:Cx}
def JX:Option Int→V
 |none=> .cn
 |some i=> .int i
theorem yX{is:List Int}{us:List Value}(r:Vals (is.map V.int) us):us.length=is.length∧∀(j:Nat)(v:Value),us[j]?=some v→∃t,v= .int (is.getD j 0) t:=by
 have hl:=r.length;rw[List.length_map]at hl;refine⟨hl.symm,fun j v e=>?_⟩;have hj:j<is.length:=by have:=(Y' e).1;lia
 obtain⟨u,eu,ru⟩:=r.get (i:=j) (x:= .int is[j]) (by simp[hj]);rw[e]at eu;cases eu;obtain⟨t,rfl⟩:=ru;exact⟨t,by simp[hj]⟩
theorem JY{is:List Int}{k:Nat}(hk:k<is.length)(h:∀j,j<is.length→is.getD j 0≤is.getD k 0):is.max?=some (is.getD k 0):=by
 rw[List.max?_eq_some_iff];refine⟨by simp[hk],fun b hb=>?_⟩;obtain⟨j,hj,rfl⟩:=List.mem_iff_getElem.mp hb;have:=h j hj;simpa[hj]using this
theorem BB(hc:X.calm=true){pins:List (Addr×Obj)}{s:Shared}{σ:St}{H:Hp}{a:Addr}{is:List Int}{Q:VK}(I:Inv X pins σ H s)(hq:jC X.K H a (is.map V.int))(q:Q (JX is.max?) H):
  wpAny (model X.prog X.w) X.A (call (.builtin "max") [.ref a] [("default", .none)]) (EP X pins σ Q) X.xe s:=by
 obtain⟨its,rv,p,hz⟩:=I.list hq;obtain⟨hl,hv⟩:=yX rv;refine wpAny_call (codeAny_call_builtin F.plain_max F.entry_max ?_);simp only[checkBuiltinCall,F.kind_max];have body:wpAny (model X.prog X.w) X.A.in1 (Builtin.«max» ⟨[.ref a],[("default", .none)]⟩) (fun fin s'=>match fin with
   | .done f=>(match (Except.ok f:Result)with| .ok (.ret v)=>EP X pins σ Q v s'| .ok _=>False| .error e=>X.xe e s')
   | .again c'=>c'.quiet=true∧codeAny (model X.prog X.w) X.A c' (fun r s'=>match r with| .ok (.ret v)=>EP X pins σ Q v s'| .ok _=>False| .error e=>X.xe e s') s') X.xe s:=by
  show wpAny _ X.A.in1 (Builtin.Builtins.bindParams "max" ["key","default"] 0 ⟨[],[("default", .none)]⟩>>=_) _ _ s;refine wpAny_bind (wpAny_of_eq (show Builtin.Builtins.bindParams "max" ["key","default"] 0 ⟨[],[("default", .none)]⟩=pure [none,some .none]from rfl) ?_);refine wpAny_bind (wpAny_pure (wpAny_bind (wpAny_pyIter_list p.isList ?_)));have dE:a≠s.heap.objs.size:=by
   obtain⟨o,n,e,_⟩:=p;exact Nat.ne_of_lt (Heap.lt_size e)
  refine wpAny_bind (wpAny_newObj_type ?_);rw[vH];have eS:(s.heap.push {cls:= .type "list_iterator",data:= .fields #[.ref a, .int 0 0]}).objs.size=s.heap.objs.size+1:=by simp[Heap.push]
  have Wk:=Walks.list (prog:=X.prog) (w:=X.w) (A:=X.A.in1) (show X.A.in1.handled=none from I.ok.hd hc) s.heap.objs.size a dE its.toArray;refine wpAny_pure ⟨plainId_quiet F.plain_max_loop _,By (pg:=X.prog) (wd:=X.w) Wk _ (CmpOf.ints_gt (fun j=>is.getD j 0) fun j v e=>hv j v (by simpa using e)) (s.heap.push {cls:= .type "list_iterator",data:= .fields #[.ref a, .int 0 0]}).objs.size ?_ .none _ 0 _ [] 0 rfl (Nat.zero_le _) ?_ (.inl ⟨rfl,rfl⟩) ?_ fun v h' tk pf kp=>?_⟩
  ·intro z;simp only[List.mem_cons,List.not_mem_nil,or_false]at z;rw[eS]at z;rcases z with z|z
   ·exact Nat.succ_ne_self _ z
   ·obtain⟨o,n,e,_⟩:=p;have lt:=Heap.lt_size e;rw[←z]at lt;exact Nat.lt_irrefl _ (Nat.lt_of_succ_lt lt)
  ·exact⟨⟨_,Zj (Heap.get?_push_size _ rfl),rfl,rfl⟩,p.isList.at fun o e=>Zj (Zj e)⟩
  ·exact Heap.get?_push_size _ rfl
  ·have keep:∀b o,s.heap.get? b=some o→h'.get? b=some o:=fun b o e=>by
    have lt:=Heap.lt_size e;refine kp b o (fun z=>?_) (fun z=>?_) (Zj (Zj e))
    ·have z:b=s.heap.objs.size:=by simpa using z
     rw[z]at lt;exact Nat.lt_irrefl _ lt
    ·rw[z,eS]at lt;exact Nat.lt_irrefl _ (Nat.lt_of_succ_lt lt)
   have sz:its.toArray.size=is.length:=by simp[hl]
   rcases pf with⟨h0,rfl⟩|⟨h0,pf⟩
   ·have:is=[]:=List.length_eq_zero_iff.mp Zq;subst this;exact⟨.cn,H,I.kept (t':=tk) keep,rfl,q⟩
   ·rw[List.getElem?_toArray]at pf;obtain⟨t,rfl⟩:=hv _ v pf;obtain⟨b1,b2⟩:=argBest_gt (fun j=>is.getD j 0) (its.toArray.size-1);have em:=JY (is:=is) (k:=argBest (fun i j=>decide (is.getD i 0>is.getD j 0)) (its.toArray.size-1)) (by lia) fun j hj=>b2 j Zq
    rw[em]at q;exact⟨.int _,H,I.kept (t':=tk) keep,⟨t,rfl⟩,q⟩
 cases Rb:Manifest.signature? "max" with
 |none=>exact wpAny_pure body
 |some sig=>
  have ha:=Bz (.ref a) .none;simp only[argsOk,Rb]at ha;have h2:Bind.checkArgs "max" sig ⟨[.ref a],[("default", .none)]⟩=pure ():=ha;show wpAny _ X.A.in1 (Bind.checkArgs "max" sig ⟨[.ref a],[("default", .none)]⟩) _ _ s;rw[h2];exact wpAny_pure body
def Nh(K:Frag)(ta:TE):TE:=fun σ H Q=>ta σ H fun x H1=>∃(a:Addr)(is:List Int),x= .ref a∧jC K H1 a (is.map V.int)∧Q (JX is.max?) H1
theorem Gx(K:Frag){e:Expr}{ta:TE}{p pos kp cp:Pos}{j:Nat}(hc:X.calm=true)(hg:Gl X "max")(hm:X.mg "max"=none)(he:PE X e ta)(hs:starEach [e] X.env=[(false,eval e X.env)]:=by rfl)(hK:X.K=K:=by rfl):
  PE X (.Call (.Name "max" p) [e] [⟨some "default", .Constant .none j cp,kp⟩] pos) (Nh K ta):=by
 subst hK;intro pins s σ H Q I h;refine wpAny_Call_Name_kw (jZ I hg hm (PyProof.Rows.Boot.«max») ?_ (Zv) (Zv));rw[hs];refine callWith_builtin_kwB (first:=[]) rfl rfl (evalArgs_kwB rfl ?_);refine Calls.spliced_cons ?_;show wpAny _ _ (eval e X.env) _ _ s;refine cz (he pins s σ H _ I h) fun v s1 ⟨x,H1,I1,r1,q1⟩=>Calls.spliced_nil ?_
 obtain⟨a,is,rfl,hq,q⟩:=q1;cases r1;refine kws_cons ?_;refine Constant_none ?_;refine kws_nil ?_;exact BB hc I1 hq q
def tV:List V→List V→Bool
 |[],[]=>true
 |x::xs,y::ys=>kU x y&&tV xs ys
 | _,_=>false
theorem mU:∀(xs ys:List V),((List.range (min xs.length ys.length)).all (fun j=>kU (xs.getD j .cn) (ys.getD j .cn))&&xs.length==ys.length)=tV xs ys
 |[],[]=>rfl
 |[],y::ys=>by simp[tV]
 |x::xs,[]=>by simp[tV]
 |x::xs,y::ys=>by
  have ih:=mU xs ys;simp only[tV];rw[←ih];have e:min (x::xs).length (y::ys).length=min xs.length ys.length+1:=by simp[Nat.succ_min_succ]
  rw[e,List.range_succ_eq_map,List.all_cons,List.all_map];simp only[List.getD_cons_zero,Function.comp_def,List.getD_cons_succ,List.length_cons,Bool.and_assoc]
  congr 2
  simp
theorem xt{A:Around}{s:Shared}{xs ys:List V}{its eG:List Value}(r:Vals xs its)(r2:Vals ys eG)(f1:xs.all gy=true)(f2:ys.all gy=true):
  ∀j (h1:j<its.toArray.size) (h2:j<eG.toArray.size),SeqAt.EqAt A s its.toArray[j] eG.toArray[j] ((fun j=>kU (xs.getD j .cn) (ys.getD j .cn)) j):=by
 refine DC r r2 fun j x y hx hy=> .inl ⟨List.all_eq_true.mp f1 x (Zd hx),List.all_eq_true.mp f2 y (Zd hy),?_⟩
 simp[List.getD_eq_getElem?_getD,hx,hy]
open Classical in
end
theorem uS{K:Frag}{a:Addr}{xs:List V}{ls:List Str}{js:List Nat}{g:TG}{tt:TT}{te:TE}{σ:St}{H1:Hp}{D:Addr}{Q:VK}(Pv:Nat→List V→St→Hp→Prop)
  (h0:Pv 0 [] (kX ls js σ) (upd H1 D (.lst []))) (hl:∀i ys σ H,i≤xs.length→Pv i ys σ H→jC K H a xs)
  (hs:∀i x T ys σ H,xs[i]?=some x→Pv i ys σ H→H T=none→g (.ref T) σ (upd H T (.tup [.int i,x])) fun fm H3=>tt fm H3 fun b H4=>if b=true then te fm H4 fun y H5=>H5 D=some (.lst ys)∧ys.length<sizeLine∧Pv (i+1) (ys++[y]) fm (upd H5 D (.lst (ys++[y])))else Pv (i+1) ys fm H4)
  (hd:∀ys σ H,Pv xs.length ys σ H→Q (.ref D) H):
  rX (Ls K a) ls js g tt te σ H1 D Q:=
 nS (n:=xs.length) Pv h0 (fun i ys σ H hi p=>⟨xs,xs[i],hl i ys σ H (Nat.le_of_lt hi) p,by simp[hi]⟩) (fun ys σ H p=>⟨xs,hl _ ys σ H (Nat.le_refl _) p,Nat.le_refl _⟩)
  (fun i ys σ H x H2 hi p y=>by
   obtain⟨T,z,rfl,hT,rfl,hy⟩:=y;exact hs i z T ys σ H (hy xs (hl i ys σ H (Nat.le_of_lt hi) p)) p hT) hd
end L2
namespace QF
open PySem L2
def fH(S:Int→Prop):Option Int→Prop
 |none=>∀v,¬S v
 |some m=>S m∧∀v,S v→v≤m
theorem fH.iff{S T:Int→Prop}{a:Option Int}(ha:fH S a)(h:∀v,S v↔T v):fH T a:=by
 cases a with
 |none=>exact fun v hv=>ha v ((h v).mpr hv)
 |some m=>exact⟨(h m).mp ha.1,fun v hv=>ha.2 v ((h v).mpr hv)⟩
def bx:Option Int→Int→Option Int
 |none,_=>none
 |some v,p=>some (v-p)
theorem fH.less{S:Int→Prop}{a:Option Int}(ha:fH S a)(p:Int):fH (fun v=>∃u,S u∧v=u-p) (bx a p):=by
 cases a with
 |none=>exact fun v ⟨u,hu,_⟩=>ha u hu
 |some m=>
  refine⟨⟨m,ha.1,rfl⟩,?_⟩;rintro v ⟨u,hu,rfl⟩;have:=ha.2 u hu
  lia
def nY(l:List (Option Int)):Option Int:=(l.filterMap id).max?
theorem j7(l:List (Option Int)):fH (fun v=>some v∈l) (nY l):=by
 have key:∀v,v∈l.filterMap id↔some v∈l:=fun v=>by
  rw[List.mem_filterMap];exact⟨fun⟨o,ho,eo⟩=>by have eo:o=some v:=eo;rw[eo]at ho;exact ho,fun h=>⟨some v,h,rfl⟩⟩
 unfold nY;cases e:(l.filterMap id).max? with
 |none=>
  rw[List.max?_eq_none_iff]at e;intro v hv;have:=(key v).mpr hv;rw[e]at this;cases this
 |some m=>
  rw[List.max?_eq_some_iff]at e;exact⟨(key m).mp e.1,fun v hv=>e.2 v ((key v).mpr hv)⟩
theorem fH.TN{S T:Int→Prop}{a:Option Int}(ha:fH S a)(h1:∀v,S v→T v)(h2:∀v,T v→∃u,S u∧v≤u):fH T a:=by
 cases a with
 |none=>
  intro v hv;obtain⟨u,hu,_⟩:=h2 v hv;exact ha u hu
 |some m=>
  refine⟨h1 m ha.1,fun v hv=>?_⟩;obtain⟨u,hu,hle⟩:=h2 v hv;have:=ha.2 u hu
  lia
theorem xu{S1 S2 S3:Int→Prop}{a b c:Option Int}(h1:fH S1 a)(h2:fH S2 b)(h3:fH S3 c):fH (fun v=>S1 v∨S2 v∨S3 v) (nY [a,b,c]):=by
 refine(j7 [a,b,c]).TN (fun v hv=>?_) (fun v hv=>?_)
 ·simp only[List.mem_cons,List.not_mem_nil,or_false]at hv;rcases hv with e|e|e
  ·rw[←e]at h1;exact .inl h1.1
  ·rw[←e]at h2;exact .inr (.inl h2.1)
  ·rw[←e]at h3;exact .inr (.inr h3.1)
 ·have one:∀{S:Int→Prop}{o:Option Int},fH S o→S v→o∈[a,b,c]→∃u,some u∈[a,b,c]∧v≤u:=fun{S o} hm hs ho=>by
   cases o with
   |none=>exact absurd hs (hm v)
   |some m=>exact⟨m,ho,hm.2 v hs⟩
  rcases hv with hs|hs|hs
  ·exact one h1 hs Zr
  ·exact one h2 hs Zr
  ·exact one h3 hs Zr
def Ak(ps:List Pr):Pr:=pr ps (ps.length-1)
def JZ(c:Case)(shut:List Pr)(p:Pr):Option Int:=if p∈shut then none else c.pw p
theorem yY{ps:List Pr}{p:Pr}:Ak (ps++[p])=p:=by
 unfold Ak;rw[List.length_append];exact Gv
def Gy:Option Int→Option Int→Option Int
 |none,_=>none
 |some w,none=>some w
 |some w,some b=>if b<0 then some w else some (w+b)
def Bq(f:Nat→Nat→Option Int)(o p:Int):Nat→Nat→Option Int
 |0,_=>none
 | _+1,0=>none
 |i+1,j+1=>nY [Gy (f i j) (Bq f o p i j),bx (Bq f o p i (j+1)) o,bx (Bq f o p (i+1) j) p]
termination_by i j=>(i,j)
def cZ(f:Nat→Nat→Option Int)(o p:Int)(i j:Nat):Option Int:=Gy (f i j) (Bq f o p i j)
def mf(c:Case)(shut:List Pr)(i j:Nat):Option Int:=JZ c shut ((i:Int),(j:Int))
theorem Gz(o:Option Int):JX o=bJ o:=by cases o<;>rfl
def fT(H:Hp)(vs:List V)(L:List (List Pr)):Prop:=vs.length=L.length∧∀(k:Nat)(ps:List Pr),L[k]?=some ps→∃a us,vs[k]?=some (V.ref a)∧H a=some (.lst us)∧fO H us ps
def Ni(l:Addr)(vs:List V):Prop:=∀k:Nat,vs[k]?≠some (V.ref l)
theorem fT.nil{H:Hp}:fT H [] []:=⟨rfl,fun k ps e=>by simp at e⟩
theorem fT.same{H H':Hp}{vs:List V}{L:List (List Pr)}(w:fT H vs L)(s:ar H H'):fT H' vs L:=⟨w.1,fun k ps e=>let ⟨a,us,h1,h2,h3⟩:=w.2 k ps e;⟨a,us,h1,s _ _ h2,h3.same s⟩⟩
theorem fT.put{H:Hp}{vs:List V}{L:List (List Pr)}{l:Addr}{zs:List V}{o:HO}(w:fT H vs L)(n:Ni l vs)(h:H l=some (.lst zs)):fT (upd H l o) vs L:=⟨w.1,fun k ps e=>by
 obtain⟨a,us,h1,h2,h3⟩:=w.2 k ps e;refine⟨a,us,h1,?_,h3.cw (dR.lst h)⟩;rw[ai (fun z=>n k (by rw[h1,z]))];exact h2⟩
theorem fT.append{H:Hp}{vs ws:List V}{L M:List (List Pr)}(a:fT H vs L)(b:fT H ws M):fT H (vs++ws) (L++M):=by
 refine⟨by simp[a.1,b.1],fun i p e=>?_⟩;by_cases h:i<L.length
 ·rw[List.getElem?_append_left h]at e;obtain⟨x,us,h1,h2⟩:=a.2 i p e;exact⟨x,us,by rw[List.getElem?_append_left (by rw[a.1];exact h)];exact h1,h2⟩
 ·rw[List.getElem?_append_right Zq]at e;obtain⟨x,us,h1,h2⟩:=b.2 _ p e;exact⟨x,us,by rw[List.getElem?_append_right (by rw[a.1];lia),a.1];exact h1,h2⟩
theorem fT.one{H:Hp}{a:Addr}{us:List V}{ps:List Pr}(h:H a=some (.lst us))(P:fO H us ps):fT H [.ref a] [ps]:=by
 refine⟨rfl,fun i q e=>?_⟩
 match i,e with
 |0,e=>cases e;exact⟨a,us,rfl,h,P⟩
 |i+1,e=>simp at e
def cR(m:Nat)(f:Nat→Option Int):List V:=(List.range m).map fun j=>bJ (f j)
theorem cS(m:Nat)(f:Nat→Option Int):(cR m f).length=m:=by simp[cR]
theorem cT{m j:Nat}{f:Nat→Option Int}(h:j<m):(cR m f)[j]?=some (bJ (f j)):=by simp[cR,h]
theorem pM(m:Nat)(f:Nat→Option Int):cR (m+1) f=cR m f++[bJ (f m)]:=by simp[cR,List.range_succ]
structure iN(H:Hp)(as:List Addr)(f:Nat→Nat→Option Int)(n m:Nat):Prop where
 len:as.length=n
 row:∀(i:Nat)(a:Addr),as[i]?=some a→H a=some (.lst (cR m (f i)))
theorem iN.same{H H':Hp}{as:List Addr}{f:Nat→Nat→Option Int}{n m:Nat}(t:iN H as f n m)(s:ar H H'):iN H' as f n m:=⟨t.len,fun i a e=>s _ _ (t.row i a e)⟩
theorem iN.at{H:Hp}{as:List Addr}{f:Nat→Nat→Option Int}{n m i:Nat}(t:iN H as f n m)(h:i<n):∃a,as[i]?=some a∧(as.map V.ref)[i]?=some (.ref a)∧H a=some (.lst (cR m (f i))):=by
 have hi:i<as.length:=by rw[t.len];exact h
 refine⟨as[i],by simp[hi],by simp[hi],t.row i _ (by simp[hi])⟩
def Tab(H H':Hp)(e:Addr)(f:Nat→Nat→Option Int)(n m:Nat):Prop:=∃as:List Addr,H' e=some (.lst (as.map V.ref))∧H e=none∧iN H' as f n m∧∀a∈as,H a=none
structure Al(K:W.Frag)(C:Addr):Prop where
 cl:vf K C
 out:bR K C "out"
 into:bR K C "into"
 j8:bR K C "ending"
 i_:bR K C "brought"
def gz(o p:Int)(e b:Addr):List (Str×V):=[("out", .int o),("into", .int p),("ending", .ref e),("brought", .ref b)]
theorem HX(o p:Int)(e b:Addr):(gz o p e b).lookup ("out":Str)=some (V.int o):=by kernel_rfl
theorem DE(o p:Int)(e b:Addr):(gz o p e b).lookup ("into":Str)=some (V.int p):=by kernel_rfl
theorem g8(o p:Int)(e b:Addr):(gz o p e b).lookup ("ending":Str)=some (V.ref e):=by kernel_rfl
theorem gF(o p:Int)(e b:Addr):(gz o p e b).lookup ("brought":Str)=some (V.ref b):=by kernel_rfl
theorem DF(o p:Int)(e b:Addr):(gz o p e b).lookup ("brought_behind":Str)=none:=by kernel_rfl
theorem Nj(o p:Int)(e b:Addr):bo "brought" (.ref b) (bo "ending" (.ref e) (bo "into" (.int p) (bo "out" (.int o) [])))=gz o p e b:=by kernel_rfl
def qL(f g:Nat→Option Int)(o p:Int):Nat→Option Int
 |0=>none
 |j+1=>nY [f j,bx (g (j+1)) o,bx (qL f g o p j) p]
theorem Am(f:Nat→Nat→Option Int)(o p:Int)(i:Nat):∀j,qL (cZ f o p i) (Bq f o p i) o p j=Bq f o p (i+1) j
 |0=>by unfold qL Bq;rfl
 |j+1=>by
  rw[qL,Bq,Am f o p i j];rfl
theorem iy(f:Nat→Nat→Option Int)(o p:Int)(j:Nat):Bq f o p 0 j=none:=by unfold Bq;rfl
inductive k_(vs:List V)(H:Hp)(Q:VK)(u3:XK):Prop
 |mk (a:Addr) (os:List (Option Int)) (_:vs=[.ref a]) (_:H a=some (.lst (os.map bJ))) (_:os.length≤1000) (_:∀H',ar H H'→Q (bJ (nY os)) H'):k_ vs H Q u3
inductive vI(vs:List V)(H:Hp)(Q:VK)(u3:XK):Prop
 |mk (o:Option Int) (p:Int) (_:vs=[bJ o, .int p]) (_:Q (bJ (bx o p)) H):vI vs H Q u3
inductive yZ(vs:List V)(H:Hp)(Q:VK)(u3:XK):Prop
 |mk (w b:Option Int) (_:vs=[bJ w,bJ b]) (_:Q (bJ (Gy w b)) H):yZ vs H Q u3
inductive pN(C:Addr)(vs:List V)(H:Hp)(Q:VK)(u3:XK):Prop
 |mk (x e a dx te tb:Addr) (o p:Int) (m:Nat) (f g:Nat→Option Int) (_:vs=[.ref x, .ref e, .ref a]) (_:H x=some (.ins C dx (gz o p te tb))) (_:H e=some (.lst (cR m f))) (_:H a=some (.lst (cR (m+1) g))) (_:m≤1000) (_:∀H' r,ar H H'→H r=none→H' r=some (.lst (cR (m+1) (qL f g o p)))→Q (.ref r) H'):pN C vs H Q u3
def DG(H:Hp)(v:V)(shut:List Pr):Prop:=(v= .cn∧shut=[])∨∃l us,v= .ref l∧H l=some (.lst us)∧fO H us shut
def a8(p:Pr):List Key:=[.inl p.1, .inl p.2]
def An(kvs:List (List Key×V))(shut:List Pr):Prop:=∀p:Pr,(bu kvs (a8 p)).isSome=decide (p∈shut)
inductive vJ(vs:List V)(H:Hp)(Q:VK)(u3:XK):Prop
 |mk (v:V) (shut:List Pr) (_:vs=[v]) (_:DG H v shut) (_:shut.length≤1000) (_:∀H' d kvs,ar H H'→H' d=some (.dT kvs)→An kvs shut→Q (.ref d) H'):vJ vs H Q u3
theorem fO.last{H:Hp}{xs:List V}{ps:List Pr}(P:fO H xs ps)(dE:ps≠[]):∃t,tN xs (-1)=some (.ref t)∧H t=some (.tup [.int (Ak ps).1, .int (Ak ps).2]):=by
 have hp:0<ps.length:=List.length_pos_iff.mpr dE;have hl:=P.1;obtain⟨t,h1,h2⟩:=P.Q_ (k:=ps.length-1) (by lia);refine⟨t,?_,h2⟩;have e:xs=xs.take (ps.length-1)++[V.ref t]:=by
  apply List.ext_getElem?;intro n;by_cases hn:n<ps.length-1
  ·rw[List.getElem?_append_left (by rw[List.length_take];lia),List.getElem?_take,Zi hn]
  ·rw[List.getElem?_append_right (by rw[List.length_take];lia),List.length_take];by_cases wO:n=ps.length-1
   ·subst wO;rw[h1];have:ps.length-1-min (ps.length-1) xs.length=0:=by lia
    rw[this];rfl
   ·rw[List.getElem?_eq_none Zq,List.getElem?_eq_none (by simp;lia)]
 rw[e];exact xl _ _
theorem Ao(p q:Pr):tV (jW p) (jW q)=decide (p=q):=by
 simp only[jW,tV,kU,Bool.and_true];rw[Bool.eq_iff_iff];simp[Prod.ext_iff]
theorem DH{m j:Nat}{f:Nat→Option Int}{u:Option Int}:(cR m f).set j (bJ u)=cR m (fun k=>if k=j then u else f k):=by
 apply List.ext_getElem?;intro k;by_cases hk:k<m
 ·rw[cT hk];by_cases e:j=k
  ·subst e;rw[List.getElem?_set_self (by rw[cS];exact hk)];simp
  ·rw[List.getElem?_set_ne e,cT hk];have:¬k=j:=fun z=>e z.symm
   simp[this]
 ·rw[List.getElem?_eq_none (by rw[List.length_set,cS];lia),List.getElem?_eq_none (by rw[cS];lia)]
end QF
namespace L2
open PySem PySem.Spec PyProof.Rows PySem.W PySem.Calls
section
variable{X:Cx}{tg:Expr}
end
section
variable{X:Cx}
end
section
variable{X:Cx}
end
end L2
namespace QF
open PySem L2
def Rg(fs:List Form)(x t:Str):Bool:=decide (x=t)||fs.any fun f=>(decide (f.1=x)&&decide (f.2.1=t))||(decide (f.1=t)&&decide (f.2.1=x))
def Nk(fs:List Form)(t:Str):List Str:=[t]++(fs.filter fun f=>decide (f.1=t)).map (·.2.1)++(fs.filter fun f=>decide (f.2.1=t)).map (·.1)
def HY(p:Nat→Bool):Nat→Int
 |0=> -1
 |n+1=>if p n then(n:Int)else HY p n
structure NS where
 ws:List Str
 ts:List Str
 fs:List Form
 span:Nat
def NS.p(c:NS)(t:Str)(i:Nat):Bool:=match c.ws[i]? with
 |some x=>Rg c.fs x t
 |none=>false
def NS.Nl(c:NS)(n:Nat):List Int:=c.ts.map fun t=>HY (c.p t) n
def NS.low(c:NS)(n:Nat):Int:=((c.Nl n).min?).getD (-1)
def NS.at_(c:NS)(h:Nat):Option Pr:=if c.low h<c.low (h+1)∧(h:Int)-c.low (h+1)<c.span then some (c.low (h+1),(h:Int))else none
def NS.told(c:NS)(k:Nat):List Pr:=(List.range k).filterMap c.at_
def NS.holds(c:NS)(l h:Nat):Bool:=c.ts.all fun t=>(((c.ws.map fun x=>decide (x∈Nk c.fs t)).drop l).take (h-l)).any id
def NS.ok(c:NS)(l h:Nat):Bool:=c.holds l (h+1)&&!(c.holds (l+1) (h+1))&&!(c.holds l h)
def NS.row(c:NS)(l k:Nat):List Pr:=(List.range k).filterMap fun d=>if c.ok l (l+d)=true then some ((l:Int),((l+d:Nat):Int))else none
def NS.Yx(c:NS)(i:Nat):List Pr:=(List.range i).flatMap fun l=>c.row l (min c.ws.length (l+c.span)-l)
end QF
namespace L2
open PySem PySem.Spec PyProof.Rows PySem.W PySem.Calls
section
variable{X:Cx}{tg:Expr}
end
section
variable{pg:Program}{wd:World}{Ar:Around}{sh:Shared}{Rs:Result→Shared→Prop}{it:Addr}{fp wr:List Addr}{Gn:Array GenState→Array GenState→Prop}{n:Nat}{Pv:Nat→Value→Prop}{Sv:Nat→Shared→Prop}
end
section
variable{X:Cx}
end
end L2
namespace QF
open PySem L2
def wR(q p:Pr):Prop:=q.1<p.1∧q.2<p.2
def gp(o i:Int)(q p:Pr):Int:=o*(p.1-q.1-1)+i*(p.2-q.2-1)
structure Wy(g:Pr→Option Int)(ps:List Pr):Prop where
 ne:ps≠[]
 ok:∀p∈ps,(g p).isSome=true
 up:ps.Pairwise wR
def vl(g:Pr→Option Int)(o i:Int):List Pr→Int
 |[]=>0
 |[p]=>(g p).getD 0
 |p::q::r=>(g p).getD 0-gp o i p q+vl g o i (q::r)
def bY(ps:List Pr):Pr:=ps.headD (0,0)
def lstP(ps:List Pr):Pr:=ps.getLastD (0,0)
theorem dU{ps:List Pr}{p:Pr}:lstP (ps++[p])=p:=by simp[lstP]
theorem vK(g:Pr→Option Int)(o i:Int)(q:Pr)(bs:List Pr):∀(as:List Pr),vl g o i (as++q::bs)=vl g o i (as++[q])+vl g o i (q::bs)-(g q).getD 0
 |[]=>by simp only[List.nil_append,vl];lia
 |[a]=>by
  simp only[List.cons_append,List.nil_append,vl]
  lia
 |a::b::r=>by
  have ih:=vK g o i q bs (b::r);simp only[List.cons_append]at ih⊢;simp only[vl];rw[ih]
  lia
theorem rz(g:Pr→Option Int)(o i:Int){ps:List Pr}(dE:ps≠[])(p:Pr):vl g o i (ps++[p])=(g p).getD 0+vl g o i ps-gp o i (lstP ps) p:=by
 obtain⟨qs,q,rfl⟩:∃qs q,ps=qs++[q]:=⟨ps.dropLast,ps.getLast dE,(List.dropLast_concat_getLast dE).symm⟩
 rw[dU,List.append_assoc];have:=vK g o i q [p] qs;simp only[List.singleton_append]at this⊢;rw[this];simp only[vl]
 lia
theorem Wy.one{g:Pr→Option Int}{p:Pr}(h:(g p).isSome=true):Wy g [p]:=by
 refine⟨Zx,fun q hq=>?_,Zx⟩;have e:q=p:=by simpa using hq
 rw[e];exact h
theorem pO{a b c:Pr}(h1:wR a b)(h2:wR b c):wR a c:=⟨Int.lt_trans h1.1 h2.1,Int.lt_trans h1.2 h2.2⟩
theorem pw_lst{ps:List Pr}(h:ps.Pairwise wR){q:Pr}(hq:q∈ps):q=lstP ps∨wR q (lstP ps):=by
 have dE:ps≠[]:=fun z=>by rw[z]at hq;cases hq
 obtain⟨qs,x,rfl⟩:∃qs x,ps=qs++[x]:=⟨ps.dropLast,ps.getLast dE,(List.dropLast_concat_getLast dE).symm⟩
 rw[dU];rcases List.mem_append.mp hq with hq|hq
 ·exact .inr ((List.pairwise_append.mp h).2.2 q hq x (Zx))
 ·exact .inl (by simpa using hq)
theorem Wy.snoc{g:Pr→Option Int}{ps:List Pr}{p:Pr}(w:Wy g ps)(h:(g p).isSome=true)(s:wR (lstP ps) p):Wy g (ps++[p]):=by
 refine⟨Zx,fun q hq=>?_,List.pairwise_append.mpr ⟨w.up,Zx,fun a ha b hb=>?_⟩⟩
 ·rcases List.mem_append.mp hq with hq|hq
  ·exact w.ok q hq
  ·have:q=p:=by simpa using hq
   rw[this];exact h
 ·have:b=p:=by simpa using hb
  rw[this];rcases pw_lst w.up ha with e|e
  ·rw[e];exact s
  ·exact pO e s
theorem Wy.split{g:Pr→Option Int}{ps:List Pr}(w:Wy g ps):∃qs,ps=qs++[lstP ps]∧(∃v,g (lstP ps)=some v)∧(qs=[]∨(Wy g qs∧wR (lstP qs) (lstP ps))):=by
 obtain⟨qs,x,rfl⟩:∃qs x,ps=qs++[x]:=⟨ps.dropLast,ps.getLast w.ne,(List.dropLast_concat_getLast w.ne).symm⟩
 rw[dU];refine⟨qs,rfl,Option.isSome_iff_exists.mp (w.ok x (Zx)),?_⟩;by_cases e:qs=[]
 ·exact .inl e
 ·have h:=List.pairwise_append.mp w.up;refine .inr ⟨⟨e,fun q hq=>w.ok q (List.mem_append_left _ hq),h.1⟩,h.2.2 _ ?_ x (Zx)⟩;obtain⟨rs,y,rfl⟩:∃rs y,qs=rs++[y]:=⟨qs.dropLast,qs.getLast e,(List.dropLast_concat_getLast e).symm⟩
  rw[dU];simp
theorem cU{ps:List Pr}(h:ps≠[]):lstP ps∈ps:=by
 obtain⟨rs,y,rfl⟩:∃rs y,ps=rs++[y]:=⟨ps.dropLast,ps.getLast h,(List.dropLast_concat_getLast h).symm⟩
 rw[dU];simp
def lf(f:Nat→Nat→Option Int)(p:Pr):Option Int:=if 0≤p.1∧0≤p.2 then f p.1.toNat p.2.toNat else none
theorem pQ(f:Nat→Nat→Option Int)(i j:Nat):lf f ((i:Int),(j:Int))=f i j:=by simp[lf]
theorem Ap{f:Nat→Nat→Option Int}{p:Pr}(h:(lf f p).isSome=true):∃i j:Nat,p=((i:Int),(j:Int)):=by
 unfold lf at h;split at h
 ·rename_i hh
  exact⟨p.1.toNat,p.2.toNat,Prod.ext (by simp;lia) (by simp;lia)⟩
 ·cases h
def OU(f:Nat→Nat→Option Int)(o p:Int)(i j:Nat)(v:Int):Prop:=∃ps,Wy (lf f) ps∧(lstP ps).1<(i:Int)∧(lstP ps).2<(j:Int)∧v=vl (lf f) o p ps-(o*((i:Int)-1-(lstP ps).1)+p*((j:Int)-1-(lstP ps).2))
def OW(f:Nat→Nat→Option Int)(o p:Int)(q:Pr)(v:Int):Prop:=∃ps,Wy (lf f) ps∧lstP ps=q∧v=vl (lf f) o p ps
theorem Aq{f:Nat→Nat→Option Int}{o p:Int}{i j:Nat}{b:Option Int}(h:fH (OU f o p i j) b):fH (OW f o p ((i:Int),(j:Int))) (Gy (f i j) b):=by
 cases e:f i j with
 |none=>
  rintro v ⟨ps,w,el,rfl⟩;obtain⟨qs,_,⟨x,hx⟩,_⟩:=w.split;rw[el,pQ,e]at hx;cases hx
 |some x=>
  have eg:lf f ((i:Int),(j:Int))=some x:=by rw[pQ];exact e
  have y4:∀ps,Wy (lf f) ps→lstP ps=((i:Int),(j:Int))→vl (lf f) o p ps=x∨∃v,OU f o p i j v∧vl (lf f) o p ps=x+v:=fun ps w el=>by
   obtain⟨qs,eq,_,hq⟩:=w.split;rw[el]at eq hq;rcases hq with rfl|⟨wq,st⟩
   ·left
    rw[eq];simp[vl,eg]
   ·right
    refine⟨_,⟨qs,wq,st.1,st.2,rfl⟩,?_⟩;rw[eq,rz _ _ _ wq.ne,eg];simp only[gp,Option.getD_some];have e1:(i:Int)-(lstP qs).1-1=(i:Int)-1-(lstP qs).1:=by lia
    have e2:(j:Int)-(lstP qs).2-1=(j:Int)-1-(lstP qs).2:=by lia
    rw[e1,e2]
    lia
  have alone:OW f o p ((i:Int),(j:Int)) x:=⟨[((i:Int),(j:Int))], .one (by rw[eg];rfl),rfl,by simp[vl,eg]⟩
  have more:∀v,OU f o p i j v→OW f o p ((i:Int),(j:Int)) (x+v):=by
   rintro v ⟨ps,w,l1,l2,rfl⟩;refine⟨ps++[((i:Int),(j:Int))],w.snoc (by rw[eg];rfl) ⟨l1,l2⟩,dU,?_⟩;rw[rz _ _ _ w.ne,eg];simp only[gp,Option.getD_some];have e1:(i:Int)-(lstP ps).1-1=(i:Int)-1-(lstP ps).1:=by lia
   have e2:(j:Int)-(lstP ps).2-1=(j:Int)-1-(lstP ps).2:=by lia
   rw[e1,e2]
   lia
  cases b with
  |none=>
   refine⟨alone,?_⟩;rintro v ⟨ps,w,el,rfl⟩;rcases y4 ps w el with h1|⟨u,hu,_⟩
   ·lia
   ·exact absurd hu (h u)
  |some m=>
   simp only[Gy];split
   ·refine⟨alone,?_⟩;rintro v ⟨ps,w,el,rfl⟩;rcases y4 ps w el with h1|⟨u,hu,h2⟩
    ·lia
    ·have:=h.2 u hu
     lia
   ·refine⟨more m h.1,?_⟩;rintro v ⟨ps,w,el,rfl⟩;rcases y4 ps w el with h1|⟨u,hu,h2⟩
    ·lia
    ·have:=h.2 u hu
     lia
theorem xv{f:Nat→Nat→Option Int}{ps:List Pr}(w:Wy (lf f) ps):0≤(lstP ps).1∧0≤(lstP ps).2:=by
 obtain⟨a,b,e⟩:=Ap (w.ok _ (cU w.ne));rw[e];simp
theorem fI(f:Nat→Nat→Option Int)(o p:Int):∀i j:Nat,fH (OU f o p i j) (Bq f o p i j)
 |0,j=>by
  unfold Bq;rintro v ⟨ps,w,l1,_⟩;have:=xv w;simp at l1
  lia
 |i+1,0=>by
  unfold Bq;rintro v ⟨ps,w,_,l2,_⟩;have:=xv w;simp at l2
  lia
 |i+1,j+1=>by
  rw[Bq];refine(xu (Aq (fI f o p i j)) ((fI f o p i (j+1)).less o) ((fI f o p (i+1) j).less p)).iff fun v=>?_
  constructor
  ·rintro(⟨ps,w,el,rfl⟩|⟨u,⟨ps,w,l1,l2,rfl⟩,rfl⟩|⟨u,⟨ps,w,l1,l2,rfl⟩,rfl⟩)
   ·refine⟨ps,w,by rw[el];simp;lia,by rw[el];simp;lia,?_⟩;rw[el];have e1:((i+1:Nat):Int)-1-(i:Int)=0:=by lia
    have e2:((j+1:Nat):Int)-1-(j:Int)=0:=by lia
    simp only[e1,e2,Int.mul_zero]
    lia
   ·refine⟨ps,w,by lia,by lia,?_⟩;have e1:((i+1:Nat):Int)-1-(lstP ps).1=((i:Int)-1-(lstP ps).1)+1:=by lia
    rw[e1,Int.mul_add]
    lia
   ·refine⟨ps,w,by lia,by lia,?_⟩;have e1:((j+1:Nat):Int)-1-(lstP ps).2=((j:Int)-1-(lstP ps).2)+1:=by lia
    rw[e1,Int.mul_add]
    lia
  ·rintro⟨ps,w,l1,l2,rfl⟩;by_cases h1:(lstP ps).1<(i:Int)
   ·right;left
    refine⟨_,⟨ps,w,h1,l2,rfl⟩,?_⟩;have e1:((i+1:Nat):Int)-1-(lstP ps).1=((i:Int)-1-(lstP ps).1)+1:=by lia
    rw[e1,Int.mul_add]
    lia
   ·by_cases h2:(lstP ps).2<(j:Int)
    ·right;right
     refine⟨_,⟨ps,w,l1,h2,rfl⟩,?_⟩;have e1:((j+1:Nat):Int)-1-(lstP ps).2=((j:Int)-1-(lstP ps).2)+1:=by lia
     rw[e1,Int.mul_add]
     lia
    ·left
     have a1:(lstP ps).1=(i:Int):=by lia
     have a2:(lstP ps).2=(j:Int):=by lia
     refine⟨ps,w,Prod.ext a1 a2,?_⟩;have e1:((i+1:Nat):Int)-1-(lstP ps).1=0:=by lia
     have e2:((j+1:Nat):Int)-1-(lstP ps).2=0:=by lia
     simp only[e1,e2,Int.mul_zero]
     lia
termination_by i j=>(i,j)
theorem r_(f:Nat→Nat→Option Int)(o p:Int)(i j:Nat):fH (OW f o p ((i:Int),(j:Int))) (cZ f o p i j):=Aq (fI f o p i j)
def fr(f:Nat→Nat→Option Int)(n m:Nat)(a b:Nat):Option Int:=if a<n∧b<m then f (n-1-a) (m-1-b)else none
def Ce(f:Nat→Nat→Option Int)(n m:Nat):Prop:=∀i j,(f i j).isSome=true→i<n∧j<m
theorem J0(c:Case)(shut:List Pr)(p:Pr):lf (mf c shut) p=JZ c shut p:=by
 unfold lf;split
 ·rename_i h
  unfold mf
  congr 1
  exact Prod.ext (by simp;lia) (by simp;lia)
 ·rename_i h
  unfold JZ;split
  ·rfl
  ·exact(c.pw_out Zq).symm
theorem J1(c:Case)(shut:List Pr):Ce (mf c shut) c.xs.length c.ys.length:=fun i j h=>by
 unfold mf JZ at h;split at h
 ·cases h
 ·obtain⟨w,hw⟩:=Option.isSome_iff_exists.mp h;have:=c.pw_in hw;simp at this
  lia
end QF
namespace L2
open PySem PySem.Spec PyProof.Rows PySem.W PySem.Calls
section
variable{X:Cx}
open Classical in
end
end L2
namespace QF
open PySem L2
theorem fO.first{H:Hp}{xs:List V}{ps:List Pr}(P:fO H xs ps)(dE:ps≠[]):∃t,tN xs 0=some (.ref t)∧H t=some (.tup [.int (bY ps).1, .int (bY ps).2]):=by
 cases ps with
 |nil=>exact absurd rfl dE
 |cons p r=>
  obtain⟨t,h1,h2⟩:=P.2 0 p rfl;exact⟨t,aF (j:=0) h1,h2⟩
end QF
namespace L2
open PySem PySem.Spec PyProof.Rows PySem.W PySem.Calls
section
variable{prog:Program}{w:World}{κ:Type}[DecidableEq κ]{knd:HeapKind prog w κ}{A:Around}{E:Value→Shared→Prop}{s:Shared}
theorem uT{α β:Type}(f:α→β):∀(xs:List α)(j:Nat),(xs.eraseIdx j).map f=(xs.map f).eraseIdx j
 |[],_=>Zx
 | _::_,0=>Zx
 | _::r,j+1=>by simp[uT f r j]
theorem BC{xs:List (κ×Addr×Value)}(hn:(xs.map (·.1)).Nodup):∀{j:Nat}{k:κ}{p:Addr×Value},xs[j]?=some (k,p)→xs.eraseIdx j=xs.filter fun x=>decide (x.1≠k):=by
 induction xs with
 |nil=>intro j k p h;simp at h
 |cons x r ih=>
  intro j k p h;have A4:=List.nodup_cons.mp (by simpa using hn:(x.1::r.map (·.1)).Nodup);cases j with
  |zero=>
   have:x=(k,p):=by simpa using h
   subst this;have hf:r.filter (fun x=>decide (x.1≠k))=r:=List.filter_eq_self.mpr fun y hy=>by
    have:y.1≠k:=fun e=>A4.1 (List.mem_map.mpr ⟨y,hy,e⟩)
    simpa using this
   simp only[List.eraseIdx_cons_zero,List.filter_cons];rw[hf];simp
  |succ j=>
   have hj:r[j]?=some (k,p):=by simpa using h
   have hx:x.1≠k:=fun e=>A4.1 (e▸(List.mem_map.mpr ⟨(k,p),Zd hj,rfl⟩))
   simp only[List.eraseIdx_cons_succ,List.filter_cons];rw[ih A4.2 hj,Zi (by simpa using hx)]
theorem vL{d a:Addr}{xs:List (κ×Addr×Value)}{k:κ}{p:Addr×Value}{Q:Option DictEntry→Shared→Prop}(hu:knd.room A)(nJ:knd.is s.heap k a)(hm:s.heap.DictOfH knd d xs)(hp:atKey xs k=some p)(hsz:xs.length≤sizeLine)
  (h:∀h' e,e.val=p.2→h'.DictOfH knd d (xs.filter fun x=>decide (x.1≠k))→Heap.SameBut d s.heap h'→Q (some e) {s with heap:=h',toks:=s.toks+knd.draws k}):wpAny (model prog w) A (Builtin.Dict.takeOut d (.ref a)) Q E s:=by
 obtain⟨o,es,ep,ho,hc,hd,he,Rh,hn⟩:=hm;unfold Builtin.Dict.takeOut
 try with_reducible refine wpAny_holding ?_
 refine wpAny_bind (knd.pyHash hu nJ ?_);refine wpAny_bind (wpAny_dictFind_heap (s:={s with toks:=s.toks+knd.draws k}) hu nJ ho hd he Rh hn ?_ ?_)
 ·intro Ge;rw[atKey_none_of_get Ge]at hp;cases hp
 ·intro j q hj;have eq:q=p:=by rw[atKey_of_get hn hj]at hp;exact Zp hp
  subst eq;refine wpAny_bind (wpAny_dictEntries (s:={s with toks:=s.toks+knd.draws k}) ho hd ?_);rw[entry_at he j,hj];refine wpAny_bind (wpAny_updateDictKeys (hz:=by have e:=size_of_entries he;lia) (s:={s with toks:=s.toks+knd.draws k}) ho hd (wpAny_pure (h _ _ rfl ⟨_,_,ep+1,Heap.get?_update_self _ ho (Obj.isFreed_of_dict (Obj.data_mapDictKeys hd _)),
   hc.mapDictKeys _,Obj.data_mapDictKeys hd _,?_,?_,?_⟩ (Heap.SameBut.update ..))))
  ·rw[←BC hn hj,uT,←he];obtain⟨l⟩:=es;simp
  ·intro x hx;exact knd.keeps (Rh x (List.mem_filter.mp hx).1) ho hd (Heap.SameBut.update ..)
  ·exact hn.sublist (List.filter_sublist.map _)
theorem y6(d a:Addr):
  MeetsIn prog w (Builtin.«dict.pop» ⟨[.ref d, .ref a],[]⟩) (fun A R s=>knd.room A.in1∧∃k xs p,knd.is s.heap k a∧s.heap.DictOfH knd d xs∧xs.length≤sizeLine∧atKey xs k=some p∧
   ∀h',h'.DictOfH knd d (xs.filter fun x=>decide (x.1≠k))→Heap.SameBut d s.heap h'→R (.ok (.ret p.2)) {s with heap:=h',toks:=s.toks+knd.draws k}):=
 .of_wp fun A R s ⟨hu,k,xs,p,nJ,hm,hsz,hp,h⟩=>by
  obtain⟨o,es,ep,ho,hc,hd,he,Rh,hn⟩:=id hm;have dE:es.isEmpty=false:=by
   cases hx:xs with
   |nil=>rw[hx]at hp;cases hp
   |cons x r=>
    have:=size_of_entries he;rw[hx]at this;simp at this;rw[Array.isEmpty_eq_false_iff];intro e;rw[e]at this;simp at this
  unfold Builtin.«dict.pop»;refine wpAny_bind ?_;unfold Builtin.Dict.keyAndDefault;refine wpAny_bind (wpAny_notOrdered_dict hm.typeIs ?_);show wpAny _ _ (pure (d,Value.ref a,none)) _ _ s;refine wpAny_pure ?_;have Nm:(keyPart (Value.ref a)).isSome=false:=rfl;simp only[Nm,Bool.false_eq_true,if_false];refine wpAny_bind (wpAny_dictEntries ho hd (wpAny_bind (wpAny_pure ?_)));rw[dE];simp only[Bool.false_eq_true,if_false];refine wpAny_bind (vL hu nJ hm hp hsz fun h' e Wm Bp kK=>?_);simp only[Option.isNone_some,Bool.false_eq_true,if_false];exact wpAny_bind (wpAny_letGo (wpAny_pure ⟨e.val,rfl,by rw[Wm];exact h h' Bp kK⟩))
end
section
variable{X:Cx}{pins:List (Addr×Obj)}{σ:St}{H:Hp}{s:Shared}{a:Addr}{u:Value}{A:Around}{E:Value→Shared→Prop}{kvs:List (List Key×V)}
theorem KT.drop{xs:List (List Key×Addr×Value)}(r:KT H kvs xs)(k:List Key):KT H (iJ kvs k) (xs.filter fun x=>decide (x.1≠k)):=by
 unfold iJ
 induction r with
 |nil=>exact .nil
 |cons z t ih=>
  simp only[List.filter_cons];rw[z.1];split
  ·exact .cons z ih
  ·exact ih
theorem J2{v:V}{k:List Key}{b:Addr}{Q:Value→Shared→Prop}(hu:A.units+1<cLine)(I:Inv X pins σ H s)(e:H a=some (.dT kvs))(eb:H b=some (.tup (k.map kV)))(l:bu kvs k=some v)
  (h:∀w' s',Inv X pins σ (upd H a (.dT (iJ kvs k))) s'→RelV v w'→Q w' s'):wpAny (model X.prog X.w) A (call (.builtin "dict.pop") [.ref a, .ref b]) Q E s:=by
 obtain⟨z,hd,xs,rel,dd⟩:=HI I.bH e;have rv:=rel.val k;rw[l]at rv;obtain⟨w',hw,i7⟩:=jX.some_of rv;obtain⟨p,hp,rfl⟩:=Option.map_eq_some_iff.mp hw;refine call_meetsIn PySem.F.slot_dict_pop dd.typeIs PySem.F.entry_dict_pop (PySem.F.args_dict_pop_2 _ _) (y6 (knd:=tupleKind (cQ X.prog X.w)) a b)
  ⟨tupleKind_room_in1 hu,k,xs,p,mR I.bH eb,dd,by rw[←Paired.length rel];exact z,hp,fun h' HJ hs=>h _ _ ?_ i7⟩
 obtain⟨q,es,ep,hq,h2,h3,h4,_,h5⟩:=HJ;refine vi I (by rw[e];exact True.intro) hs ⟨q,hq⟩ ⟨Nat.le_trans (xj kvs k) z,hd,_,(rel.drop k).keeps fun c ys ec=>?_,q,es,ep,hq,h2,h3,h4,h5⟩;rw[ai (iI ec e (fun z=>nomatch z))];exact ec
end
inductive HZ(x y:V)(H:Hp)(Q:VK):Prop
 |mk (a b:Addr) (kvs:List (List Key×V)) (k:List Key) (v:V) (_:x= .ref a) (_:y= .ref b) (_:H a=some (.dT kvs)) (_:H b=some (.tup (k.map kV))) (_:bu kvs k=some v) (_:Q v (upd H a (.dT (iJ kvs k)))):HZ x y H Q
def Nn(td ty:TE):TE:=fun σ H Q=>td σ H fun x H1=>∃a,x= .ref a∧Qy H1 a∧ty σ H1 fun y H2=>HZ x y H2 Q
theorem DI{X:Cx}{o e:Expr}{apos dW:Pos}{td ty:TE}(hu:X.A.units+1<cLine)(ho:PE X o td)(he:PE X e ty)(m:M1 X o "pop" apos e dW):PE X (.Call (.Attribute o "pop" apos) [e] [] dW) (Nn td ty):=by
 intro pins s σ H Q I h;refine wpAny_Call_method m.base m.Bk m.line PySem.F.plainAttrs_dict PySem.F.slot_dict_pop PySem.F.type_dict_pop (cz (ho pins s σ H _ I h) fun u s1 ⟨x,H1,I1,rx,a,ex,d,q1⟩=>?_);subst ex;obtain rfl:u=Value.ref a:=rx;obtain⟨t1,t2,_⟩:=CP I1 d;refine⟨t1,t2,?_⟩;rw[m.trees];refine Calls.callWith_builtin rfl (Calls.evalArgs_plain (Calls.spliced_cons (cz (he pins s1 σ H1 _ I1 q1) fun iv s2 ⟨y,H2,I2,ry,q2⟩=>Calls.spliced_nil ?_)));obtain⟨a',b,kvs,k,v,e1,rfl,e2,e3,l,q⟩:=q2;cases e1;obtain rfl:iv=Value.ref b:=ry;exact J2 hu I2 e2 e3 l fun w' s3 I3 i7=>⟨v,_,I3,i7,q⟩
section
variable{prog:Program}{w:World}{A:Around}{E:Value→Shared→Prop}{s:Shared}{it d:Addr}{i ep:Nat}{od:Obj}{es:Array DictEntry}{Q:Option Value→Shared→Prop}
theorem DJ(hit:s.heap.IsValIter it d i es.size ep)(H_:s.heap.get? d=some od)(Ia:od.data= .dict es ep)(hi:i<es.size)
  (hQ:∀h',h'.IsValIter it d (i+1) es.size ep→Heap.SameBut it s.heap h'→Q (some es[i].val) {s with heap:=h'}):wpAny (model prog w) A (pyNext (.ref it)) Q E s:=by
 obtain⟨o,ho,hc,hd⟩:=id hit;have T:=hit.typeIs;have Ge:Builtin.Dict_items.ownsTuple "dict_valueiterator"=false:=Zv;unfold pyNext;refine wpAny_bind (wpAny_attempt (wpAny_callSpecial?_slot (name:=Str.ofString "__next__") T F.slot_dict_valueiterator_next (wpAny_call_entry F.slot_dict_valueiterator_next T F.entry_dict_valueiterator_next ?_ (F.args_dict_valueiterator_next_1 _))));refine wpAny_bind (wpAny_pure (wpAny_bind (wpAny_bind ?_)));first|refine wpAny_bind (wpAny_typeNameOfWhole_valiter T (wpAny_pure ?_))|refine wpAny_bind (wpAny_typeNameOf_valiter T (wpAny_pure ?_))
 refine wpAny_bind (wpAny_fieldsOf ho hd ?_);simp only[Ge,Bool.false_eq_true,if_false];show wpAny _ _ (if (Value.ref d==Value.none)=true then _ else _) _ _ s;rw[Ze (show ¬((Value.ref d==Value.none)=true)from Bool.false_ne_true)];refine wpAny_bind (wpAny_pure (wpAny_bind (wpAny_dictEntries H_ Ia ?_)));rw[if_neg Zr];refine wpAny_bind (wpAny_pure (wpAny_bind (wpAny_dictEpoch H_ Ia ?_)));rw[if_neg Zr];refine wpAny_pure ?_;simp only[show ¬((i:Int)<0)from by lia,if_false,Int.toNat_natCast,Array.getElem?_eq_getElem hi];refine wpAny_bind ?_;first|refine wpAny_bind (wpAny_typeNameOfWhole_valiter T (wpAny_pure ?_))|refine wpAny_bind (wpAny_typeNameOf_valiter T (wpAny_pure ?_))
 refine wpAny_bind (wpAny_isOneOf_valiter T ?_);show wpAny _ _ (setField (.ref it) 1 (rawInt ((i:Int)+1))>>=_) _ _ s;refine wpAny_bind (wpAny_setField ho hd Zr ?_);have ht:(s.heap.update it (Obj.mapFields (·.setIfInBounds 1 (rawInt ((i:Int)+1))))).IsValIter it d (i+1) es.size ep:=
  ⟨_,Heap.get?_update_self _ ho (Obj.isFreed_of_fields (Obj.data_mapFields hd _)),(Obj.cls_mapFields ..).trans hc,by rw[Obj.data_mapFields hd];simp[rawInt]⟩
 refine wpAny_bind (wpAny_holding (wpAny_bind (wpAny_isOneOf_valiter (s:={s with heap:=s.heap.update it (Obj.mapFields (·.setIfInBounds 1 (rawInt ((i:Int)+1))))}) ht.typeIs ?_)));refine wpAny_bind (wpAny_isOneOf_valiter (s:={s with heap:=s.heap.update it (Obj.mapFields (·.setIfInBounds 1 (rawInt ((i:Int)+1))))}) ht.typeIs ?_);show wpAny _ _ (pure es[i].val) _ _ _;exact wpAny_pure (wpAny_pure ⟨_,rfl,wpAny_pure (hQ _ ht (Heap.SameBut.update ..))⟩)
theorem GA(hh:A.handled=none)(hit:s.heap.IsValIter it d i es.size ep)(H_:s.heap.get? d=some od)(Ia:od.data= .dict es ep)(hi:es.size≤i)
  (hQ:∀h',Heap.ExtBut it s.heap h'→Q none {s with heap:=h'}):wpAny (model prog w) A (pyNext (.ref it)) Q E s:=by
 obtain⟨o,ho,hc,hd⟩:=id hit;have T:=hit.typeIs;have Ge:Builtin.Dict_items.ownsTuple "dict_valueiterator"=false:=Zv;unfold pyNext;refine wpAny_bind (wpAny_attempt (wpAny_callSpecial?_slot (name:=Str.ofString "__next__") T F.slot_dict_valueiterator_next (wpAny_call_entry F.slot_dict_valueiterator_next T F.entry_dict_valueiterator_next ?_ (F.args_dict_valueiterator_next_1 _))));refine wpAny_bind (wpAny_pure (wpAny_bind (wpAny_bind ?_)));first|refine wpAny_bind (wpAny_typeNameOfWhole_valiter T (wpAny_pure ?_))|refine wpAny_bind (wpAny_typeNameOf_valiter T (wpAny_pure ?_))
 refine wpAny_bind (wpAny_fieldsOf ho hd ?_);simp only[Ge,Bool.false_eq_true,if_false];show wpAny _ _ (if (Value.ref d==Value.none)=true then _ else _) _ _ s;rw[Ze (show ¬((Value.ref d==Value.none)=true)from Bool.false_ne_true)];refine wpAny_bind (wpAny_pure (wpAny_bind (wpAny_dictEntries H_ Ia ?_)));rw[if_neg Zr];refine wpAny_bind (wpAny_pure (wpAny_bind (wpAny_dictEpoch H_ Ia ?_)));rw[if_neg Zr];refine wpAny_pure ?_;simp only[show ¬((i:Int)<0)from by lia,if_false,Int.toNat_natCast,Array.getElem?_eq_none hi];refine wpAny_bind ?_;first|refine wpAny_bind (wpAny_typeNameOfWhole_valiter T (wpAny_pure ?_))|refine wpAny_bind (wpAny_typeNameOf_valiter T (wpAny_pure ?_))
 show wpAny _ _ (setField (.ref it) 0 .none>>=_) _ _ s;refine wpAny_bind (wpAny_setField ho hd Zr ?_);show wpAny _ _ (newExc (.type "StopIteration") []>>=_) _ _ _;refine wpAny_bind ?_;simp only[newExc,newTuple];refine wpAny_bind (wpAny_newObj_type ?_ (by size_fits));refine wpAny_bind (m:=firstArgMember _ _) (wpAny_of_eq (a:=Value.none) (by first|rfl|(simp only[firstArgMember];rfl)) ?_);refine wpAny_newObj_type ?_ (by size_fits);simp only[raiseNew];refine wpAny_bind (wpAny_handled ?_);rw[show A.in1.handled=none from hh];refine wpAny_bind (wpAny_pure (wpAny_throw ?_));refine wpAny_bind (wpAny_isInstance (T:="StopIteration") (b:=true) ⟨_,Heap.get?_push_size _ rfl,rfl⟩ isSubtype_stop ?_);exact wpAny_pure (hQ _ (((Heap.SameBut.update ..).extBut.push _).push _))
end
theorem uU{α β:Type}{F:α→β→Prop}:∀{l:List α}{m:List β}{i:Nat}{a:α},Paired F l m→l[i]?=some a→∃b,m[i]?=some b∧F a b
 | _,_,_,_, .nil,e=>by simp at e
 | _,_,0,_, .cons r _,e=>by simp at e;subst e;exact⟨_,rfl,r⟩
 | _,_,i+1,_, .cons _ t,e=>by
  obtain⟨b,h,f⟩:=uU (i:=i) t (by simpa using e);exact⟨b,by simpa using h,f⟩
def Ri(d:Addr)(o:Obj)(kvs:List (List Key×V)):It:=
 ⟨fun i H=>H d=some (.q_ o (.dT kvs))∧i<kvs.length,fun i H x H'=>H'=H∧∃p,kvs[i]?=some p∧x=p.2,fun i H=>H d=some (.q_ o (.dT kvs))∧kvs.length≤i⟩
theorem As{P:Program}{w:World}{H:Hp}{h:Heap}{d:Addr}{o:Obj}{kvs:List (List Key×V)}{es:Array DictEntry}{ep:Nat}(ok:kF P w H h)(e:H d=some (.q_ o (.dT kvs)))(hd:o.data= .dict es ep):
  h.get? d=some o∧es.size=kvs.length∧∀i (hi:i<es.size) p,kvs[i]?=some p→RelV p.2 es[i].val:=by
 obtain⟨q1,_,_,xs,r,o',OC,OD,z1,z2,z3,z4,_⟩:=ok d _ e;rw[q1]at z1;cases z1;rw[hd]at z3;cases z3;have hs:=size_of_entries z4;have hl:=Paired.length r;refine⟨q1,by rw[hs,hl],fun i hi p hp=>?_⟩;obtain⟨x,hx,rx⟩:=uU r hp;have e1:=entry_at z4 i;rw[hx,Array.getElem?_eq_getElem hi]at e1;have:es[i]=entryOfKey (tupleKind (cQ P w)) x:=Zp e1;rw[this];exact rx.2.2
theorem turn_val{P:Program}{w:World}{K:Frag}{tg:Expr}{it d:Addr}{o:Obj}{kvs:List (List Key×V)}{es:Array DictEntry}{ep:Nat}(hd:o.data= .dict es ep):Turn P w K tg (Ri d o kvs) [it] it (fun i h=>h.IsValIter it d i es.size ep) where
 mem:=Zx
 obj:=fun i h st b hb=>by
  have e:b=it:=by simpa using hb
  subst e;obtain⟨o,e,c,d⟩:=st;exact⟨o,e,fun v z=>by rw[d]at z;cases z⟩
 keep:=fun i h h' st k=>let ⟨o,ho,r⟩:=st;⟨o,k it (Zx) o ho,r⟩
 item:=by
  intro X hP hw hK hc i pins s σ H E I hf st hg;subst hP hw hK;obtain⟨hg,hi⟩:=hg;obtain⟨f0,f1,f2,f3,f4,f5⟩:=hf it (Zx);obtain⟨g1,g2,g3⟩:=As I.bH hg hd;have wQ:i<es.size:=by lia
  refine DJ st g1 hd wQ fun h' aL sb=>?_
  have I1:Inv X pins σ H {s with heap:=h'}:=I.turned (t':=s.toks) (fun b o hb e=>(sb.2 b hb).trans e) f0 f1 f3 f4 f5;obtain⟨oi,q1,q2,q3⟩:=id aL;exact⟨_,rfl,w9 (s:={s with heap:=h'}) q1 q2 q3 (Zv) ⟨_,H,I1,g3 i wQ kvs[i] (by simp[hi]),⟨rfl,kvs[i],by simp[hi],rfl⟩,aL,fun b hb=>(hf b hb).1⟩⟩
 done:=by
  intro X hP hw hK hc i pins s σ H E I hf st hg;subst hP hw hK;obtain⟨hg,hi⟩:=hg;obtain⟨f0,f1,f2,f3,f4,f5⟩:=hf it (Zx);obtain⟨g1,g2,g3⟩:=As I.bH hg hd;exact GA (I.ok.hd hc) st g1 hd Zq fun h' eb=>⟨rfl,I.turned (t':=s.toks) (fun b o hb e=>eb b o hb e) f0 f1 f3 f4 f5⟩
 self:=fun _ _ _ _ _ st h=>wpAny_pyIter_valiter st h
section
variable{prog:Program}{w:World}{A:Around}{E:Value→Shared→Prop}{s:Shared}
theorem BD(d:Addr)(hd:(d==sysModules)=false):MeetsIn prog w (Builtin.«dict.values» ⟨[.ref d],[]⟩) (fun _ R s=>s.TypeIs (.ref d) "dict"∧
   R (.ok (.ret (.ref s.heap.objs.size))) {s with heap:=s.heap.push {cls:= .type "dict_values",data:= .fields #[.ref d]}}):=
 .of_wp fun A R s ⟨ht,h⟩=>by
  refine wpAny_bind ?_;unfold Builtin.Dict.noArgs;refine wpAny_bind (wpAny_notOrdered_dict ht ?_);show wpAny _ _ (pure d) _ _ s;refine wpAny_pure ?_;show wpAny _ _ (Builtin.Dict.showsAll d>>=_) _ _ s;unfold Builtin.Dict.showsAll;rw[Ze (by rw[hd];exact Bool.false_ne_true)];exact wpAny_bind (wpAny_pure (wpAny_bind (wpAny_newObj_type (wpAny_pure ⟨_,rfl,h⟩))))
theorem BE{v d:Addr}{od:Obj}{es:Array DictEntry}{ep:Nat}{Q:Value→Shared→Prop}(hv:s.heap.IsValuesView v d)(H_:s.heap.get? d=some od)(Ia:od.data= .dict es ep)
  (hQ:Q (.ref s.heap.objs.size) {s with heap:=s.heap.push {cls:= .type "dict_valueiterator",data:= .fields #[.ref d, .int 0 0, .int es.size 0, .int ep 0]}}):wpAny (model prog w) A (pyIter (.ref v)) Q E s:=by
 obtain⟨ov,Wn,Yy,Wo⟩:=id hv;refine wpAny_pyIter_slot hv.typeIs F.slot_dict_values_iter (wpAny_call_entry F.slot_dict_values_iter hv.typeIs F.entry_dict_values_iter ?_ (F.args_dict_values_iter_1 _));unfold Builtin.«dict_values.__iter__»;refine wpAny_bind (wpAny_pure (wpAny_bind ?_));unfold Builtin.Dict_items.dictOf;refine wpAny_bind (wpAny_field Wn Wo (x:= .ref d) rfl (wpAny_pure (wpAny_bind ?_)));unfold Builtin.Dict_items.newIterator;refine wpAny_bind (wpAny_dictEntries H_ Ia (wpAny_bind (wpAny_dictEpoch H_ Ia ?_)));have Ge:Builtin.Dict_items.ownsTuple "dict_valueiterator"=false:=Zv;simp only[Ge,Bool.false_eq_true,if_false];refine wpAny_newObj_type (wpAny_pure ⟨_,rfl,"dict_valueiterator",_,⟨_,Heap.get?_push_size _ rfl,rfl⟩,F.slot_dict_valueiterator_next.lookup,?_⟩);simpa[rawInt]using hQ
end
def Np(eD:Hp)(tl:TE):TI:=fun σ H R=>tl σ H fun x H1=>∃d kvs,x= .ref d∧H1 d=some (.dT kvs)∧∀o,NF eD d→R (Ri d o kvs) (upd H1 d (.q_ o (.dT kvs)))
theorem GB{X:Cx}(eD:Hp){tg o:Expr}{tl:TE}{apos dW:Pos}(hl:PE X o tl)(nL:attributeBase o "values" X.env (eval o X.env)=eval o X.env:=by rfl)(mB:(apos.endLine==dW.line)=true:=by rfl)(hH:X.eD=eD:=by rfl):
  PI X tg (.Call (.Attribute o "values" apos) [] [] dW) (Np eD tl):=by
 subst hH;intro pins s σ H R I h;refine wpAny_Call_method0_late nL mB (cz (hl pins s σ H _ I h) fun v s1 ⟨x,H1,I1,r1,q1⟩=>?_);obtain⟨d,kvs,e,hd,q⟩:=q1;subst e;cases r1;obtain⟨z1,z2,xs,r,o,es,ep,g1,g2,g3,g4,g5⟩:=I1.bH d _ hd;have nf:NF X.eD d:=fun o v e=>by
  have:=I1.base.kM d o v e;rw[hd]at this;cases this
 refine⟨"dict",_,F.plainAttrs_dict,F.slot_dict_values,F.type_dict_values,⟨o,g1,g2.1⟩,fun b hb=>?_,Calls.callWith_builtin rfl (PySem.evalArgs_none ?_)⟩
 ·cases hb;exact⟨o,g1,g2.2.1⟩
 refine call_meetsIn F.slot_dict_values ⟨o,g1,g2.1⟩ F.entry_dict_values (F.args_dict_values_1 _) (BD d z2) ⟨⟨o,g1,g2.1⟩,?_⟩;have Wq:=Heap.get?_push_of_some {cls:= .type "dict_values",data:= .fields #[.ref d]} g1;refine BE (s:={s1 with heap:=s1.heap.push {cls:= .type "dict_values",data:= .fields #[.ref d]}}) ⟨_,Heap.get?_push_size _ rfl,rfl,rfl⟩ Wq g3 ?_;have Iz:Inv X pins σ (upd H1 d (.q_ o (.dT kvs))) s1:=I1.swap hd (fun _ z=>nomatch z) (fun _ z=>nomatch z) (fun _ z=>nomatch z) nf ⟨g1,z1,z2,xs,KT.keeps r (fun c ys ec=>by rw[ai (iI ec hd (fun z=>nomatch z))];exact ec),o,es,ep,g1,g2,g3,g4,g5⟩;have I2:=Iz.kept (t':=s1.toks) fun b o e=>Heap.get?_push_of_some {cls:= .type "dict_values",data:= .fields #[.ref d]} e
 refine⟨_,[_],_,_,_,rfl,I2.kept (t':=s1.toks) fun b o e=>Zj e,turn_val (o:=o) (kvs:=kvs) g3,⟨_,Heap.get?_push_size _ rfl,rfl,rfl⟩,fun b hb=>?_,q o nf⟩;have e:b=(s1.heap.push {cls:= .type "dict_values",data:= .fields #[.ref d]}).objs.size:=by simpa using hb
 subst e;exact I2.tS (Nat.le_refl _) (I2.bH.fresh (Nat.le_refl _))
structure xw(n:Nat)(lt:Nat→Nat→Bool):Prop where
 tr:∀i j k,i<n→j<n→k<n→lt i j=true→lt j k=true→lt i k=true
 as:∀i j,i<n→j<n→lt i j=true→lt j i=false
 OX:∀i j,i<n→j<n→i≠j→lt i j=true∨lt j i=true
def wU(n:Nat)(p:Array Nat):Prop:=p.toList.Perm (List.range n)
abbrev gd(p:Array Nat)(k:Nat):Nat:=p.getD k 0
theorem DK(p:Array Nat)(k:Nat):gd p k=(p[k]?).getD 0:=by unfold gd;rw[Array.getD_eq_getD_getElem?]
theorem wU.size{n:Nat}{p:Array Nat}(h:wU n p):p.size=n:=by have:=h.length_eq;simpa using this
def Sd(lt:Nat→Nat→Bool)(p:Array Nat)(m:Nat):Prop:=∀i j,i<j→j<m→lt (gd p i) (gd p j)=true
def Ds(lt:Nat→Nat→Bool)(p:Array Nat)(m:Nat):Prop:=∀i j,i<j→j<m→lt (gd p j) (gd p i)=true
section
variable{n:Nat}{lt:Nat→Nat→Bool}(L:xw n lt)
include L
omit L in
omit L in
omit L in
end
def xx:Bool→Keyed→Array Keyed→Nat→Nat→Nat→StateT SortSt Sem (Option Nat):=sortPriv%PySem.Builtin.gallop
def J3:Array Keyed→Array Keyed→StateT SortSt Sem (Array Keyed):=sortPriv%PySem.Builtin.mergeLo
def J4:Array Keyed→Array Keyed→StateT SortSt Sem (Array Keyed):=sortPriv%PySem.Builtin.mergeHi
def y8(l:Bool)(key:Keyed)(xs:Array Keyed)(b i:Nat):StateT SortSt Sem (Option Bool):=do
 let x←elem' xs (b+i)
 if l then lt' x key else return (←lt' key x).map (!·)
theorem GC(l:Bool)(key:Keyed)(xs:Array Keyed)(b n h:Nat):xx l key xs b n h=(do
 let mut u:=0
 let mut v:=1
 let mut lo:=0
 let mut hi:=0
 let some r←y8 l key xs b h|return none
 if r then
  let mx:=n-h
  for _ in [0:n] do
   if v≥mx then break
   let some z←y8 l key xs b (h+v)|return none
   if !z then break
   u:=v
   v:=2*v+1
  lo:=h+u+1
  hi:=h+min v mx
 else
  let mx:=h+1
  for _ in [0:n] do
   if v≥mx then break
   let some z←y8 l key xs b (h-v)|return none
   if z then break
   u:=v
   v:=2*v+1
  lo:=h+1-min v mx
  hi:=h-u
 for _ in [0:n] do
  if lo≥hi then break
  let m:=lo+(hi-lo)/2
  let some z←y8 l key xs b m|return none
  if z then lo:=m+1 else hi:=m
 return some hi):=rfl
section
variable{prog:Program}{w:World}{A:Around}{E:Value→Shared→Prop}{s:Shared}
structure DL(prog:Program)(w:World)(A:Around)(s:Shared)(X:List Keyed)(κ:SortKind)(lt:Keyed→Keyed→Bool):Prop where
 run:∀x∈X,∀y∈X,∀C:Bool→Shared→Prop,C (lt x y) s→wpAny (model prog w) A (keyLt' κ x.1 y.1) C (fun _ _=>False) s
 tr:∀x∈X,∀y∈X,∀z∈X,lt x y=true→lt y z=true→lt x z=true
 as:∀x∈X,∀y∈X,lt x y=true→lt y x=false
 OX:∀x∈X,∀y∈X,x≠y→lt x y=true∨lt y x=true
 nd:X.Nodup
variable{X:List Keyed}{κ:SortKind}{lt:Keyed→Keyed→Bool}(C:DL prog w A s X κ lt)
include C
theorem DL.no{x y:Keyed}(h1:x∈X)(h2:y∈X)(hn:x≠y)(h:lt x y=false):lt y x=true:=(C.OX x h1 y h2 hn).resolve_left (by rw[h];simp)
theorem DL.ask{st:SortSt}{x y:Keyed}{Q:Option Bool→SortSt→Prop}(hk:kindOf st=κ)(h1:x∈X)(h2:y∈X)(h:Q (some (lt x y)) st):wpS (model prog w) A E s (lt' x y) Q st:=by
 rw[lt'_eq];refine wpS_bind (wpS_get ?_);rw[hk];refine wpS_bind (wpS_lift (wpAny_attempt (wpAny_mono (C.run x h1 y h2 (fun b s'=>b=lt x y∧s'=s) ⟨rfl,rfl⟩) ?_ fun _ _ e=>e.elim)));rintro b s' ⟨rfl,rfl⟩;exact⟨rfl,wpS_pure h⟩
omit C in
theorem eI{st:SortSt}{xs:Array Keyed}{i:Nat}{x:Keyed}{Q:Keyed→SortSt→Prop}(e:xs[i]?=some x)(h:Q x st):wpS (model prog w) A E s (elem' xs i) Q st:=by
 rw[elem'_eq,e];exact wpS_pure h
def kG(lt:Keyed→Keyed→Bool)(l:Bool)(key x:Keyed):Bool:=if l then lt x key else !lt key x
theorem rA{st:SortSt}{l:Bool}{key x:Keyed}{xs:Array Keyed}{b i:Nat}{Q:Option Bool→SortSt→Prop}(hk:kindOf st=κ)(h1:key∈X)(h2:x∈X)(e:xs[b+i]?=some x)(h:Q (some (kG lt l key x)) st):wpS (model prog w) A E s (y8 l key xs b i) Q st:=by
 unfold y8;refine wpS_bind (eI e ?_);cases l with
 |true=>exact C.ask hk h2 h1 h
 |false=>exact wpS_bind (C.ask hk h1 h2 (wpS_pure h))
theorem pR{st:SortSt}{l:Bool}{key:Keyed}{xs:Array Keyed}{b n h:Nat}{Q:Option Nat→SortSt→Prop}(g:Nat→Keyed)(hk:kindOf st=κ)(h1:key∈X)(hg:∀i,i<n→xs[b+i]?=some (g i)∧g i∈X)(QK:∀i j,i<j→j<n→lt (g i) (g j)=true)(hh:h<n)
  (q:∀k,k≤n→(∀i,i<k→kG lt l key (g i)=true)→(∀i,k≤i→i<n→kG lt l key (g i)=false)→Q (some k) st):wpS (model prog w) A E s (xx l key xs b n h) Q st:=by
 have dn:∀i j,i≤j→j<n→kG lt l key (g j)=true→kG lt l key (g i)=true:=fun i j nZ hj hb=>by
  by_cases e:i=j
  ·rw[e];exact hb
  have hl:=QK i j Zq hj;unfold kG at hb⊢;cases l with
  |true=>exact C.tr _ (hg i Zq).2 _ (hg j hj).2 _ h1 hl hb
  |false=>
   simp only[Bool.false_eq_true,if_false,Bool.not_eq_true']at hb⊢;cases e2:lt key (g i)with
   |false=>rfl
   |true=>rw[C.tr _ h1 _ (hg i Zq).2 _ (hg j hj).2 e2 hl]at hb;cases hb
 have up:∀i j,i≤j→j<n→kG lt l key (g i)=false→kG lt l key (g j)=false:=fun i j nZ hj hb=>by
  cases e:kG lt l key (g j)with
  |false=>rfl
  |true=>rw[dn i j nZ hj e]at hb;cases hb
 have bin:∀lo hi,lo≤hi→hi≤n→(∀i,i<lo→kG lt l key (g i)=true)→(∀i,hi≤i→i<n→kG lt l key (g i)=false)→wpS (model prog w) A E s (do
   let r←forIn [0:n] ((none,lo,hi):Option (Option Nat)×Nat×Nat) fun _ __s=>
    if __s.2.1≥__s.2.2 then pure (ForInStep.done (none,__s.2.1,__s.2.2))
    else do
     let __x←y8 l key xs b (__s.2.1+(__s.2.2-__s.2.1)/2)
     match __x with
     |some z=>if z=true then pure (ForInStep.yield (none,__s.2.1+(__s.2.2-__s.2.1)/2+1,__s.2.2))else pure (ForInStep.yield (none,__s.2.1,__s.2.1+(__s.2.2-__s.2.1)/2))
     | _=>pure (ForInStep.done (some none,__s.2.1,__s.2.2))
   match r.1 with
   |some r=>pure r
   |none=>pure (some r.2.2)) Q st:=fun lo hi h2 h3 h4 h5=>by
  refine wpS_bind (wpS_mono (wpS_forRange (I:=fun x c aL=>aL=st∧∃lo hi,c=(none,lo,hi)∧lo≤hi∧hi≤n∧(∀i,i<lo→kG lt l key (g i)=true)∧(∀i,hi≤i→i<n→kG lt l key (g i)=false)∧hi-lo+x≤n) (Q:=fun c aL=>aL=st∧∃k,c.1=none∧c.2.2=k∧k≤n∧(∀i,i<k→kG lt l key (g i)=true)∧(∀i,k≤i→i<n→kG lt l key (g i)=false)) ?_ ?_ ⟨rfl,lo,hi,rfl,h2,h3,h4,h5,by lia⟩) ?_)
  ·rintro x c aL _ hx ⟨rfl,lo,hi,rfl,a1,a2,a3,a4,a5⟩;dsimp only;by_cases TQ:lo≥hi
   ·rw[Zi TQ];have:lo=hi:=by lia
    subst this;exact wpS_pure ⟨rfl,lo,rfl,rfl,a2,a3,a4⟩
   ·rw[Ze TQ];have hm:lo+(hi-lo)/2<n:=by lia
    obtain⟨g1,g2⟩:=hg _ hm;refine wpS_bind (rA C hk h1 g2 g1 ?_);dsimp only;cases e:kG lt l key (g (lo+(hi-lo)/2))with
    |true=>
     simp only[if_true];exact wpS_pure ⟨rfl,_,hi,rfl,by lia,a2,fun i wQ=>dn i _ (by lia) hm e,a4,by lia⟩
    |false=>
     simp only[Bool.false_eq_true,if_false];exact wpS_pure ⟨rfl,lo,_,rfl,by lia,by lia,a3,fun i wQ pz=>up _ i wQ pz e,by lia⟩
  ·rintro c aL ⟨rfl,lo,hi,rfl,a1,a2,a3,a4,a5⟩;have:lo=hi:=by lia
   subst this;exact⟨rfl,lo,rfl,rfl,a2,a3,a4⟩
  ·rintro⟨c1,c2,c3⟩ aL ⟨rfl,k,e1,e2,a2,a3,a4⟩;dsimp only at e1 e2⊢;subst e1 e2;exact wpS_pure (q _ a2 a3 a4)
 rw[GC];obtain⟨Wr,Ws⟩:=hg h hh;refine wpS_bind (rA C hk h1 Ws Wr ?_);dsimp only;cases e:kG lt l key (g h)with
 |true=>
  simp only[if_true];refine wpS_bind (wpS_mono (wpS_forRange (I:=fun x c aL=>aL=st∧∃u v,c=(none,u,v)∧u<v∧h+u<n∧kG lt l key (g (h+u))=true∧x<v) (Q:=fun c aL=>aL=st∧∃u v,c=(none,u,v)∧u<v∧h+u<n∧kG lt l key (g (h+u))=true∧(n-h≤v∨(h+v<n∧kG lt l key (g (h+v))=false))) ?_ ?_ ⟨rfl,0,1,rfl,by lia,by lia,e,by lia⟩) ?_)
  ·rintro x c aL _ hx ⟨rfl,u,v,rfl,a1,a2,a3,a4⟩;dsimp only;by_cases hv:v≥n-h
   ·rw[Zi hv];exact wpS_pure ⟨rfl,u,v,rfl,a1,a2,a3, .inl hv⟩
   ·rw[Ze hv];obtain⟨g1,g2⟩:=hg (h+v) (by lia);refine wpS_bind (rA C hk h1 g2 g1 ?_);dsimp only;cases e2:kG lt l key (g (h+v))with
    |false=>
     simp only[Bool.not_false,if_true];exact wpS_pure ⟨rfl,u,v,rfl,a1,a2,a3, .inr ⟨by lia,e2⟩⟩
    |true=>
     simp only[Bool.not_true,Bool.false_eq_true,if_false];exact wpS_pure ⟨rfl,v,2*v+1,rfl,by lia,by lia,e2,by lia⟩
  ·rintro c aL ⟨rfl,u,v,rfl,a1,a2,a3,a4⟩;exact⟨rfl,u,v,rfl,a1,a2,a3, .inl Zq⟩
  ·rintro c aL ⟨rfl,u,v,rfl,a1,a2,a3,a4⟩;dsimp only;refine Eq.mp (by kernel_rfl) (bin (h+u+1) (h+min v (n-h)) (by lia) (by lia) (fun i hi=>dn i (h+u) (by lia) a2 a3) fun i hi pz=>?_);rcases a4 with a4|⟨a4,a5⟩
   ·lia
   ·exact up (h+v) i Zq pz a5
 |false=>
  simp only[Bool.false_eq_true,if_false];refine wpS_bind (wpS_mono (wpS_forRange (I:=fun x c aL=>aL=st∧∃u v,c=(none,u,v)∧u<v∧u≤h∧kG lt l key (g (h-u))=false∧x<v) (Q:=fun c aL=>aL=st∧∃u v,c=(none,u,v)∧u<v∧u≤h∧kG lt l key (g (h-u))=false∧(h+1≤v∨(v≤h∧kG lt l key (g (h-v))=true))) ?_ ?_ ⟨rfl,0,1,rfl,by lia,by lia,e,by lia⟩) ?_)
  ·rintro x c aL _ hx ⟨rfl,u,v,rfl,a1,a2,a3,a4⟩;dsimp only;by_cases hv:v≥h+1
   ·rw[Zi hv];exact wpS_pure ⟨rfl,u,v,rfl,a1,a2,a3, .inl hv⟩
   ·rw[Ze hv];obtain⟨g1,g2⟩:=hg (h-v) (by lia);refine wpS_bind (rA C hk h1 g2 g1 ?_);dsimp only;cases e2:kG lt l key (g (h-v))with
    |true=>
     simp only[if_true];exact wpS_pure ⟨rfl,u,v,rfl,a1,a2,a3, .inr ⟨by lia,e2⟩⟩
    |false=>
     simp only[Bool.false_eq_true,if_false];exact wpS_pure ⟨rfl,v,2*v+1,rfl,by lia,by lia,e2,by lia⟩
  ·rintro c aL ⟨rfl,u,v,rfl,a1,a2,a3,a4⟩;exact⟨rfl,u,v,rfl,a1,a2,a3, .inl Zq⟩
  ·rintro c aL ⟨rfl,u,v,rfl,a1,a2,a3,a4⟩;dsimp only;refine Eq.mp (by kernel_rfl) (bin (h+1-min v (h+1)) (h-u) (by lia) (by lia) (fun i hi=>?_) fun i hi pz=>up (h-u) i Zq pz a3);rcases a4 with a4|⟨a4,a5⟩
   ·lia
   ·exact dn i (h-v) (by lia) (by lia) a5
end
def setG(g:Nat):StateT SortSt Sem Unit:=modify fun st=>SortSt.mk' (kindOf st) (arrOf st) (pendingOf st) g (failedOf st)
def Fi(a b out:Array Keyed)(i j:Nat):Array Keyed:=out++a.extract i a.size++b.extract j b.size
def Lv(a b out:Array Keyed)(i j:Nat):Array Keyed:=out++b.extract j b.size++a.extract i a.size
abbrev S1:=Option (Array Keyed)×Array Keyed×Nat×Nat×Nat×Nat
abbrev S2:=Option (Array Keyed)×Array Keyed×Nat×Nat×Nat×Nat×Nat
abbrev S3:=Option (Array Keyed)×Array Keyed×Nat×Nat×Nat
def lo1(a b:Array Keyed)(mg:Nat)(c:S1):StateT SortSt Sem (ForInStep S1):=do
 let y←elem' b c.2.2.2.1
 let x←elem' a c.2.2.1
 let z←lt' y x
 match z with
 |some bw=>
  if bw=true then do
   let y←elem' b c.2.2.2.1
   if (c.2.2.2.1+1==b.size)=true then pure (.done (some (Fi a b (c.2.1.push y) c.2.2.1 (c.2.2.2.1+1)),c.2.1.push y,c.2.2.1,c.2.2.2.1+1,0,c.2.2.2.2.2+1))
   else if c.2.2.2.2.2+1≥mg then pure (.done (none,c.2.1.push y,c.2.2.1,c.2.2.2.1+1,0,c.2.2.2.2.2+1))
   else pure (.yield (none,c.2.1.push y,c.2.2.1,c.2.2.2.1+1,0,c.2.2.2.2.2+1))
  else do
   let x←elem' a c.2.2.1
   if (c.2.2.1+1+1==a.size)=true then pure (.done (some (Lv a b (c.2.1.push x) (c.2.2.1+1) c.2.2.2.1),c.2.1.push x,c.2.2.1+1,c.2.2.2.1,c.2.2.2.2.1+1,0))
   else if c.2.2.2.2.1+1≥mg then pure (.done (none,c.2.1.push x,c.2.2.1+1,c.2.2.2.1,c.2.2.2.2.1+1,0))
   else pure (.yield (none,c.2.1.push x,c.2.2.1+1,c.2.2.2.1,c.2.2.2.2.1+1,0))
 | _=>pure (.done (some (Fi a b c.2.1 c.2.2.1 c.2.2.2.1),c.2.1,c.2.2.1,c.2.2.2.1,c.2.2.2.2.1,c.2.2.2.2.2))
def OY(a b o:Array Keyed)(i j mg k l:Nat):StateT SortSt Sem (ForInStep S2):=do
 let x←elem' a i
 if (i+1+1==a.size)=true then pure (.done (some (Lv a b (o.push x) (i+1) j),o.push x,i+1,j,mg,k,l))
 else if (decide (k<7)&&decide (l<7))=true then pure (.done (none,o.push x,i+1,j,mg,k,l))
 else pure (.yield (none,o.push x,i+1,j,mg,k,l))
def Rj(a b o:Array Keyed)(i j mg k bc:Nat):StateT SortSt Sem (ForInStep S2):=do
 let x←elem' a i
 let z←xx true x b j (b.size-j) 0
 match z with
 |some l=>if l>0 then(if (j+l==b.size)=true then pure (.done (some (Fi a b (o++b.extract j (j+l)) i (j+l)),o++b.extract j (j+l),i,j+l,mg,k,l))else OY a b (o++b.extract j (j+l)) i (j+l) mg k l)else OY a b o i j mg k l
 | _=>pure (.done (some (Fi a b o i j),o,i,j,mg,k,bc))
def OZ(a b o:Array Keyed)(i j mg k bc:Nat):StateT SortSt Sem (ForInStep S2):=do
 let y←elem' b j
 if (j+1==b.size)=true then pure (.done (some (Fi a b (o.push y) i (j+1)),o.push y,i,j+1,mg,k,bc))else Rj a b (o.push y) i (j+1) mg k bc
def O0(a b o:Array Keyed)(i j mg ac bc:Nat):StateT SortSt Sem (ForInStep S2):=do
 setG mg
 let y←elem' b j
 let z←xx false y a i (a.size-i) 0
 match z with
 |some k=>if k>0 then(if (i+k+1==a.size)=true then pure (.done (some (Lv a b (o++a.extract i (i+k)) (i+k) j),o++a.extract i (i+k),i+k,j,mg,k,bc))else if (i+k==a.size)=true then pure (.done (some (Fi a b (o++a.extract i (i+k)) (i+k) j),o++a.extract i (i+k),i+k,j,mg,k,bc))else OZ a b (o++a.extract i (i+k)) (i+k) j mg k bc)else OZ a b o i j mg k bc
 | _=>pure (.done (some (Fi a b o i j),o,i,j,mg,ac,bc))
def Rk(a b:Array Keyed)(c:S2):StateT SortSt Sem (ForInStep S2):=if c.2.2.2.2.1>1 then O0 a b c.2.1 c.2.2.1 c.2.2.2.1 (c.2.2.2.2.1-1) c.2.2.2.2.2.1 c.2.2.2.2.2.2 else O0 a b c.2.1 c.2.2.1 c.2.2.2.1 c.2.2.2.2.1 c.2.2.2.2.2.1 c.2.2.2.2.2.2
def Rl(a b:Array Keyed)(c:S3):StateT SortSt Sem (ForInStep S3):=do
 let t←forIn [0:a.size+b.size] ((none,c.2.1,c.2.2.1,c.2.2.2.1,0,0):S1) (fun _=>lo1 a b c.2.2.2.2)
 match t.1 with
 |some r=>pure (.done (some r,t.2.1,t.2.2.1,t.2.2.2.1,c.2.2.2.2))
 |none=>do
  liftM (rule "list.sort.gallop")
  let u←forIn [0:a.size+b.size] ((none,t.2.1,t.2.2.1,t.2.2.2.1,c.2.2.2.2+1,t.2.2.2.2.1,t.2.2.2.2.2):S2) (fun _=>Rk a b)
  match u.1 with
  |some r=>pure (.done (some r,u.2.1,u.2.2.1,u.2.2.2.1,u.2.2.2.2.1))
  |none=>do
   setG (u.2.2.2.2.1+1)
   pure (.yield (none,u.2.1,u.2.2.1,u.2.2.2.1,u.2.2.2.2.1+1))
theorem GD(a b:Array Keyed):J3 a b=(do
 liftM (rule "list.sort.merge-lo")
 let y←elem' b 0
 if (1==b.size)=true then pure (Fi a b #[y] 0 1)
 else if (0+1==a.size)=true then pure (Lv a b #[y] 0 1)
 else do
  let g←get
  let t←forIn [0:a.size+b.size] ((none,#[y],0,1,gallopOf g):S3) (fun _=>Rl a b)
  match t.1 with
  |some r=>pure r
  |none=>unsupported "internal:list.sort.merge-bound"):=by kernel_rfl
def Fj(a b o:Array Keyed)(i j:Nat):Array Keyed:=a.extract 0 i++b.extract 0 j++o.reverse
def Lw(a b o:Array Keyed)(i j:Nat):Array Keyed:=b.extract 0 j++a.extract 0 i++o.reverse
abbrev T1:=Option (Array Keyed)×Nat×Nat×Array Keyed×Nat×Nat
abbrev T2:=Option (Array Keyed)×Nat×Nat×Array Keyed×Nat×Nat×Nat
abbrev T3:=Option (Array Keyed)×Nat×Nat×Array Keyed×Nat
def GF(a b:Array Keyed)(mg:Nat)(c:T1):StateT SortSt Sem (ForInStep T1):=do
 let y←elem' b (c.2.2.1-1)
 let x←elem' a (c.2.1-1)
 let z←lt' y x
 match z with
 |some aw=>
  if aw=true then do
   let x←elem' a (c.2.1-1)
   if (c.2.1-1==0)=true then pure (.done (some (Fj a b (c.2.2.2.1.push x) (c.2.1-1) c.2.2.1),c.2.1-1,c.2.2.1,c.2.2.2.1.push x,c.2.2.2.2.1+1,0))
   else if c.2.2.2.2.1+1≥mg then pure (.done (none,c.2.1-1,c.2.2.1,c.2.2.2.1.push x,c.2.2.2.2.1+1,0))
   else pure (.yield (none,c.2.1-1,c.2.2.1,c.2.2.2.1.push x,c.2.2.2.2.1+1,0))
  else do
   let y←elem' b (c.2.2.1-1)
   if (c.2.2.1-1==1)=true then pure (.done (some (Lw a b (c.2.2.2.1.push y) c.2.1 (c.2.2.1-1)),c.2.1,c.2.2.1-1,c.2.2.2.1.push y,0,c.2.2.2.2.2+1))
   else if c.2.2.2.2.2+1≥mg then pure (.done (none,c.2.1,c.2.2.1-1,c.2.2.2.1.push y,0,c.2.2.2.2.2+1))
   else pure (.yield (none,c.2.1,c.2.2.1-1,c.2.2.2.1.push y,0,c.2.2.2.2.2+1))
 | _=>pure (.done (some (Fj a b c.2.2.2.1 c.2.1 c.2.2.1),c.2.1,c.2.2.1,c.2.2.2.1,c.2.2.2.2.1,c.2.2.2.2.2))
def O1(a b o:Array Keyed)(i j mg k l:Nat):StateT SortSt Sem (ForInStep T2):=do
 let x←elem' a (i-1)
 if (i-1==0)=true then pure (.done (some (Fj a b (o.push x) (i-1) j),i-1,j,o.push x,mg,k,l))
 else if (decide (k<7)&&decide (l<7))=true then pure (.done (none,i-1,j,o.push x,mg,k,l))
 else pure (.yield (none,i-1,j,o.push x,mg,k,l))
def Ro(a b o:Array Keyed)(i j mg k bc:Nat):StateT SortSt Sem (ForInStep T2):=do
 let x←elem' a (i-1)
 let z←xx true x b 0 j (j-1)
 match z with
 |some t=>if j-t>0 then(if (t==1)=true then pure (.done (some (Lw a b (o++(b.extract t j).reverse) i t),i,t,o++(b.extract t j).reverse,mg,k,j-t))else if (t==0)=true then pure (.done (some (Fj a b (o++(b.extract t j).reverse) i t),i,t,o++(b.extract t j).reverse,mg,k,j-t))else O1 a b (o++(b.extract t j).reverse) i t mg k (j-t))else O1 a b o i j mg k (j-t)
 | _=>pure (.done (some (Fj a b o i j),i,j,o,mg,k,bc))
def O2(a b o:Array Keyed)(i j mg k bc:Nat):StateT SortSt Sem (ForInStep T2):=do
 let y←elem' b (j-1)
 if (j-1==1)=true then pure (.done (some (Lw a b (o.push y) i (j-1)),i,j-1,o.push y,mg,k,bc))else Ro a b (o.push y) i (j-1) mg k bc
def yp(a b o:Array Keyed)(i j mg ac bc:Nat):StateT SortSt Sem (ForInStep T2):=do
 setG mg
 let y←elem' b (j-1)
 let z←xx false y a 0 i (i-1)
 match z with
 |some t=>if i-t>0 then(if (t==0)=true then pure (.done (some (Fj a b (o++(a.extract t i).reverse) t j),t,j,o++(a.extract t i).reverse,mg,i-t,bc))else O2 a b (o++(a.extract t i).reverse) t j mg (i-t) bc)else O2 a b o i j mg (i-t) bc
 | _=>pure (.done (some (Fj a b o i j),i,j,o,mg,ac,bc))
def Rp(a b:Array Keyed)(c:T2):StateT SortSt Sem (ForInStep T2):=if c.2.2.2.2.1>1 then yp a b c.2.2.2.1 c.2.1 c.2.2.1 (c.2.2.2.2.1-1) c.2.2.2.2.2.1 c.2.2.2.2.2.2 else yp a b c.2.2.2.1 c.2.1 c.2.2.1 c.2.2.2.2.1 c.2.2.2.2.2.1 c.2.2.2.2.2.2
def Rq(a b:Array Keyed)(c:T3):StateT SortSt Sem (ForInStep T3):=do
 let t←forIn [0:a.size+b.size] ((none,c.2.1,c.2.2.1,c.2.2.2.1,0,0):T1) (fun _=>GF a b c.2.2.2.2)
 match t.1 with
 |some r=>pure (.done (some r,t.2.1,t.2.2.1,t.2.2.2.1,c.2.2.2.2))
 |none=>do
  liftM (rule "list.sort.gallop")
  let u←forIn [0:a.size+b.size] ((none,t.2.1,t.2.2.1,t.2.2.2.1,c.2.2.2.2+1,t.2.2.2.2.1,t.2.2.2.2.2):T2) (fun _=>Rp a b)
  match u.1 with
  |some r=>pure (.done (some r,u.2.1,u.2.2.1,u.2.2.2.1,u.2.2.2.2.1))
  |none=>do
   setG (u.2.2.2.2.1+1)
   pure (.yield (none,u.2.1,u.2.2.1,u.2.2.2.1,u.2.2.2.2.1+1))
theorem GG(a b:Array Keyed):J4 a b=(do
 liftM (rule "list.sort.merge-hi")
 let x←elem' a (a.size-1)
 if (a.size-1==0)=true then pure (Fj a b #[x] (a.size-1) b.size)
 else if (b.size==1)=true then pure (Lw a b #[x] (a.size-1) b.size)
 else do
  let g←get
  let t←forIn [0:a.size+b.size] ((none,a.size-1,b.size,#[x],gallopOf g):T3) (fun _=>Rq a b)
  match t.1 with
  |some r=>pure r
  |none=>unsupported "internal:list.sort.merge-bound"):=by kernel_rfl
theorem la{α:Type}{l:List α}{i:Nat}{x:α}:x∈l.drop i↔∃t:Nat,l[i+t]?=some x:=by
 rw[List.mem_iff_getElem?];simp only[List.getElem?_drop]
theorem se{α:Type}{l:List α}{i k:Nat}{x:α}:x∈(l.drop i).take k↔∃t:Nat,t<k∧l[i+t]?=some x:=by
 rw[List.mem_iff_getElem?];constructor
 ·rintro⟨t,ht⟩;rw[List.getElem?_take]at ht;split at ht
  ·rw[List.getElem?_drop]at ht;exact⟨t,by assumption,ht⟩
  ·cases ht
 ·rintro⟨t,h1,h2⟩;exact⟨t,by rw[List.getElem?_take,Zi h1,List.getElem?_drop];exact h2⟩
theorem n5{α:Type}{l:List α}{i:Nat}{x:α}(h:l[i]?=some x):l.drop i=x::l.drop (i+1):=by
 obtain⟨h1,h2⟩:=Y' h;rw[List.drop_eq_getElem_cons h1,h2]
theorem n6{α:Type}(l:List α)(i k:Nat):l.drop i=(l.drop i).take k++l.drop (i+k):=by
 rw[←List.drop_drop,List.take_append_drop]
abbrev Pw(lt:Keyed→Keyed→Bool)(l:List Keyed):Prop:=l.Pairwise fun x y=>lt x y=true
theorem Pw.at{lt:Keyed→Keyed→Bool}{l:List Keyed}(h:Pw lt l){i j:Nat}{x y:Keyed}(nZ:i<j)(hx:l[i]?=some x)(hy:l[j]?=some y):lt x y=true:=by
 obtain⟨h1,e1⟩:=Y' hx;obtain⟨h2,e2⟩:=Y' hy;have:=List.pairwise_iff_getElem.mp h i j h1 h2 nZ;rw[e1,e2]at this;exact this
section
variable{X:List Keyed}{lt:Keyed→Keyed→Bool}{P Q:List Keyed}
structure MC(X:List Keyed)(lt:Keyed→Keyed→Bool)(P Q:List Keyed):Prop where
 sa:Pw lt P
 sb:Pw lt Q
 ia:∀x∈P,x∈X
 ib:∀x∈Q,x∈X
 ne:∀x∈P,∀y∈Q,x≠y
 fst:∀x∈P,∀y,Q[0]?=some y→lt y x=true
 lst:∀y∈Q,∀x,P[P.length-1]?=some x→lt y x=true
structure ML(lt:Keyed→Keyed→Bool)(P Q O:List Keyed)(i j:Nat):Prop where
 hi:i≤P.length
 hj:j≤Q.length
 tQ:Pw lt O
 low:∀x∈O,∀y,y∈P.drop i∨y∈Q.drop j→lt x y=true
 GH:(O++(P.drop i++Q.drop j)).Perm (P++Q)
def MG(lt:Keyed→Keyed→Bool)(P Q R:List Keyed):Prop:=R.Perm (P++Q)∧Pw lt R
theorem ML.a{O:List Keyed}{i j k:Nat}(M:MC X lt P Q)(m:ML lt P Q O i j)(hk:i+k≤P.length)(h:∀x∈(P.drop i).take k,∀y∈Q.drop j,lt x y=true):ML lt P Q (O++(P.drop i).take k) (i+k) j:=by
 have sp:=n6 P i k;have sd:Pw lt (P.drop i):=M.sa.sublist (List.drop_sublist _ _);rw[sp]at sd;obtain⟨s1,s2,s3⟩:=List.pairwise_append.mp sd;refine⟨hk,m.hj,List.pairwise_append.mpr ⟨m.tQ,s1,fun x hx y hy=>m.low x hx y (.inl (List.mem_of_mem_take hy))⟩,fun x hx y hy=>?_,?_⟩
 ·rcases List.mem_append.mp hx with hx|hx
  ·exact m.low x hx y (hy.imp (fun z=>by rw[sp];exact List.mem_append_right _ z) id)
  ·rcases hy with hy|hy
   ·exact s3 x hx y hy
   ·exact h x hx y hy
 ·have:=m.GH;rw[sp]at this;rw[List.append_assoc,←List.append_assoc ((P.drop i).take k)];exact this
theorem ML.b{O:List Keyed}{i j k:Nat}(M:MC X lt P Q)(m:ML lt P Q O i j)(hk:j+k≤Q.length)(h:∀y∈(Q.drop j).take k,∀x∈P.drop i,lt y x=true):ML lt P Q (O++(Q.drop j).take k) i (j+k):=by
 have sp:=n6 Q j k;have sd:Pw lt (Q.drop j):=M.sb.sublist (List.drop_sublist _ _);rw[sp]at sd;obtain⟨s1,s2,s3⟩:=List.pairwise_append.mp sd;refine⟨m.hi,hk,List.pairwise_append.mpr ⟨m.tQ,s1,fun x hx y hy=>m.low x hx y (.inr (List.mem_of_mem_take hy))⟩,fun x hx y hy=>?_,?_⟩
 ·rcases List.mem_append.mp hx with hx|hx
  ·exact m.low x hx y (hy.imp id (fun z=>by rw[sp];exact List.mem_append_right _ z))
  ·rcases hy with hy|hy
   ·exact h x hx y hy
   ·exact s3 x hx y hy
 ·have:=m.GH;rw[sp]at this;refine List.Perm.trans ?_ this;rw[List.append_assoc];refine List.Perm.append_left O ?_;rw[←List.append_assoc,←List.append_assoc];exact List.Perm.append_right _ List.perm_append_comm
theorem ML.dn{O:List Keyed}{i j:Nat}(M:MC X lt P Q)(m:ML lt P Q O i j)(h:i=P.length∨j=Q.length):MG lt P Q (O++P.drop i++Q.drop j):=by
 refine⟨by rw[List.append_assoc];exact m.GH,?_⟩;have sa:Pw lt (P.drop i):=M.sa.sublist (List.drop_sublist _ _);have sb:Pw lt (Q.drop j):=M.sb.sublist (List.drop_sublist _ _);rw[List.append_assoc];refine List.pairwise_append.mpr ⟨m.tQ,List.pairwise_append.mpr ⟨sa,sb,fun x hx y hy=>?_⟩,fun x hx y hy=>m.low x hx y (List.mem_append.mp hy)⟩;rcases h with h|h
 ·rw[h,List.drop_length]at hx;cases hx
 ·rw[h,List.drop_length]at hy;cases hy
theorem ML.ls{O:List Keyed}{i j:Nat}(M:MC X lt P Q)(m:ML lt P Q O i j)(h:i+1=P.length):MG lt P Q (O++Q.drop j++P.drop i):=by
 have sa:Pw lt (P.drop i):=M.sa.sublist (List.drop_sublist _ _);have sb:Pw lt (Q.drop j):=M.sb.sublist (List.drop_sublist _ _);rw[List.append_assoc];refine⟨(List.Perm.append_left O List.perm_append_comm).trans m.GH,List.pairwise_append.mpr ⟨m.tQ,List.pairwise_append.mpr ⟨sb,sa,fun y hy x hx=>?_⟩,fun x hx y hy=>m.low x hx y (List.mem_append.mp hy).symm⟩⟩;obtain⟨t,ht⟩:=la.mp hx;have hl:=(Y' ht).1;exact M.lst y (List.mem_of_mem_drop hy) x (by rw[←ht];congr 1;lia)
end
def Eg(st aL:SortSt):Prop:=kindOf aL=kindOf st∧arrOf aL=arrOf st∧pendingOf aL=pendingOf st∧failedOf aL=failedOf st
theorem Eg.refl(st:SortSt):Eg st st:=⟨rfl,rfl,rfl,rfl⟩
theorem Eg.trans{a b c:SortSt}(h:Eg a b)(k:Eg b c):Eg a c:=⟨k.1.trans h.1,k.2.1.trans h.2.1,k.2.2.1.trans h.2.2.1,k.2.2.2.trans h.2.2.2⟩
section
variable{prog:Program}{w:World}{A:Around}{E:Value→Shared→Prop}{s:Shared}{X:List Keyed}{κ:SortKind}{lt:Keyed→Keyed→Bool}(C:DL prog w A s X κ lt){a b:Array Keyed}(M:MC X lt a.toList b.toList)
theorem rB{st:SortSt}{g:Nat}{Q:Unit→SortSt→Prop}(h:∀aL,Eg st aL→Q () aL):wpS (model prog w) A E s (setG g) Q st:=wpS_modify (h _ ⟨rfl,rfl,rfl,rfl⟩)
theorem xy(o:Array Keyed)(i j:Nat):(Fi a b o i j).toList=o.toList++a.toList.drop i++b.toList.drop j:=by
 unfold Fi;simp[Array.toList_extract,List.extract_eq_take_drop];rw[List.take_of_length_le Zr,List.take_of_length_le Zr]
theorem Au(o:Array Keyed)(i j:Nat):(Lv a b o i j).toList=o.toList++b.toList.drop j++a.toList.drop i:=by
 unfold Lv;simp[Array.toList_extract,List.extract_eq_take_drop];rw[List.take_of_length_le Zr,List.take_of_length_le Zr]
theorem Ib(o:Array Keyed)(c:Array Keyed)(i k:Nat):(o++c.extract i (i+k)).toList=o.toList++(c.toList.drop i).take k:=by
 simp[Array.toList_extract,List.extract_eq_take_drop]
theorem Fl{l:List Keyed}{i:Nat}{x:Keyed}(h:l[i]?=some x):(l.drop i).take 1=[x]:=by rw[n5 h];simp
def Av(lt:Keyed→Keyed→Bool)(a b:Array Keyed)(o:Array Keyed)(i j m:Nat):Prop:=ML lt a.toList b.toList o.toList i j∧i+1<a.size∧j<b.size∧m≤i+j
def P2(lt:Keyed→Keyed→Bool)(a b:Array Keyed)(m:Nat)(st:SortSt)(r:ForInStep S2)(aL:SortSt):Prop:=Eg st aL∧match r with
 | .done c=>(∃x,c.1=some x∧MG lt a.toList b.toList x.toList)∨(c.1=none∧Av lt a b c.2.1 c.2.2.1 c.2.2.2.1 m)
 | .yield c=>c.1=none∧Av lt a b c.2.1 c.2.2.1 c.2.2.2.1 m
include C M
theorem DM{st:SortSt}{o:Array Keyed}{i j mg k l m:Nat}(ml:ML lt a.toList b.toList o.toList i j)(hi:i+1<a.size)(hj:j<b.size)(hm:m≤i+j+1)(h:∀x,a.toList[i]?=some x→∀y∈b.toList.drop j,lt x y=true):wpS (model prog w) A E s (OY a b o i j mg k l) (P2 lt a b m st) st:=by
 unfold OY;have ex:a[i]?=some a[i]:=Zx;have gv:a.toList[i]?=some a[i]:=by rw[Array.getElem?_toList];exact ex
 refine wpS_bind (eI ex ?_);have m2:ML lt a.toList b.toList (o.push a[i]).toList (i+1) j:=by
  have:=ml.a M (k:=1) (by simp;lia) (fun x hx y hy=>by
   rw[Fl gv]at hx;have:x=a[i]:=by simpa using hx
   rw[this];exact h _ gv y hy)
  rw[Fl gv]at this;rw[Array.toList_push];exact this
 by_cases e:(i+1+1==a.size)=true
 ·rw[Zi e];refine wpS_pure ⟨.refl _, .inl ⟨_,rfl,?_⟩⟩;rw[Au];exact m2.ls M (by have:=beq_iff_eq.mp e;simp;lia)
 ·rw[Ze e];have e:i+1+1≠a.size:=fun z=>e (beq_iff_eq.mpr z)
  split
  ·exact wpS_pure ⟨.refl _, .inr ⟨rfl,m2,by show i+1+1<a.size;lia,hj,by show m≤i+1+j;lia⟩⟩
  ·exact wpS_pure ⟨.refl _,rfl,m2,by show i+1+1<a.size;lia,hj,by show m≤i+1+j;lia⟩
theorem J5{st:SortSt}{o:Array Keyed}{i j mg k bc m:Nat}(hk:kindOf st=κ)(ml:ML lt a.toList b.toList o.toList i j)(hi:i+1<a.size)(hj:j<b.size)(hm:m≤i+j+1):wpS (model prog w) A E s (Rj a b o i j mg k bc) (P2 lt a b m st) st:=by
 unfold Rj;have ex:a[i]?=some a[i]:=Zx;have gv:a.toList[i]?=some a[i]:=by rw[Array.getElem?_toList];exact ex
 have hx:a[i]∈a.toList:=Zd gv;refine wpS_bind (eI ex ?_);generalize a[i]=x at ex gv hx;have gb:∀t,t<b.size-j→b[j+t]?=some (b.getD (j+t) (.none, .none)):=fun t ht=>by simp[show j+t<b.size by lia]
 have qM:∀t,t<b.size-j→b.toList[j+t]?=some (b.getD (j+t) (.none, .none)):=fun t ht=>by rw[Array.getElem?_toList];exact gb t ht
 refine wpS_bind (pR C (fun t=>b.getD (j+t) (.none, .none)) hk (M.ia _ hx) (fun t ht=>⟨gb t ht,M.ib _ (Zd (qM t ht))⟩) (fun t u h1 h2=>M.sb.at (i:=j+t) (j:=j+u) (by lia) (qM t (by lia)) (qM u h2)) (by lia) fun l hl h1 h2=>?_);dsimp only;have low:∀y∈(b.toList.drop j).take l,∀z∈a.toList.drop i,lt y z=true:=fun y hy z hz=>by
  obtain⟨t,ht,et⟩:=se.mp hy;rw[qM t (by lia)]at et;cases et;have hb:=h1 t ht;simp only[kG,if_true]at hb;rw[n5 gv]at hz;rcases List.mem_cons.mp hz with rfl|hz
  ·exact hb
  ·obtain⟨u,hu⟩:=la.mp hz;exact C.tr _ (M.ib _ (Zd (qM t (by lia)))) _ (M.ia _ hx) _ (M.ia _ (Zd hu)) hb (M.sa.at Zq gv hu)
 have yq:∀y∈b.toList.drop (j+l),lt x y=true:=fun y hy=>by
  obtain⟨t,ht⟩:=la.mp hy;have ie:=(Y' ht).1;have ie:j+l+t<b.size:=by simpa using ie
  have hb:=h2 (l+t) (by lia) (by lia);have e:b.toList[j+(l+t)]?=some y:=by rw[←Nat.add_assoc];exact ht
  rw[qM (l+t) (by lia)]at e;have e:=Zp e;simp only[kG,if_true]at hb;rw[e]at hb;exact C.no (M.ib _ (Zd ht)) (M.ia _ hx) (fun z=>M.ne _ hx _ (Zd ht) z.symm) hb
 have m2:ML lt a.toList b.toList (o++b.extract j (j+l)).toList i (j+l):=by
  rw[Ib];exact ml.b M (by simp;lia) low
 by_cases J6:l>0
 ·rw[Zi J6];by_cases e:(j+l==b.size)=true
  ·rw[Zi e];refine wpS_pure ⟨.refl _, .inl ⟨_,rfl,?_⟩⟩;rw[xy];exact m2.dn M (.inr (by have:=beq_iff_eq.mp e;simpa using this))
  ·rw[Ze e];have e:j+l≠b.size:=fun z=>e (beq_iff_eq.mpr z)
   exact DM C M m2 hi Zq (by lia) fun y hy=>by rw[gv]at hy;cases hy;exact yq
 ·rw[Ze J6];have:l=0:=by lia
  subst this;exact DM C M ml hi hj hm fun y hy=>by rw[gv]at hy;cases hy;exact yq
theorem DO{st:SortSt}{o:Array Keyed}{i j mg k bc m:Nat}(hk:kindOf st=κ)(ml:ML lt a.toList b.toList o.toList i j)(hi:i+1<a.size)(hj:j<b.size)(hm:m≤i+j+2)(h:∀y,b.toList[j]?=some y→∀x∈a.toList.drop i,lt y x=true):wpS (model prog w) A E s (OZ a b o i j mg k bc) (P2 lt a b m st) st:=by
 unfold OZ;have ex:b[j]?=some b[j]:=Zx;have gv:b.toList[j]?=some b[j]:=by rw[Array.getElem?_toList];exact ex
 refine wpS_bind (eI ex ?_);have m2:ML lt a.toList b.toList (o.push b[j]).toList i (j+1):=by
  have:=ml.b M (k:=1) (by simp;lia) (fun x hx y hy=>by
   rw[Fl gv]at hx;have:x=b[j]:=by simpa using hx
   rw[this];exact h _ gv y hy)
  rw[Fl gv]at this;rw[Array.toList_push];exact this
 by_cases e:(j+1==b.size)=true
 ·rw[Zi e];refine wpS_pure ⟨.refl _, .inl ⟨_,rfl,?_⟩⟩;rw[xy];exact m2.dn M (.inr (by have:=beq_iff_eq.mp e;simpa using this))
 ·rw[Ze e];have e:j+1≠b.size:=fun z=>e (beq_iff_eq.mpr z)
  exact J5 C M hk m2 hi Zq (by lia)
theorem DP{st:SortSt}{o:Array Keyed}{i j mg ac bc m:Nat}(hk:kindOf st=κ)(h:Av lt a b o i j m):wpS (model prog w) A E s (O0 a b o i j mg ac bc) (P2 lt a b (m+2) st) st:=by
 obtain⟨ml,hi,hj,hm⟩:=h;unfold O0;refine wpS_bind (rB fun y9 eg=>?_);have Ic:kindOf y9=κ:=eg.1.trans hk;have fin:∀{m:Nat}{p:StateT SortSt Sem (ForInStep S2)},wpS (model prog w) A E s p (P2 lt a b m y9) y9→wpS (model prog w) A E s p (P2 lt a b m st) y9:=fun h=>wpS_mono h fun r aL z=>⟨eg.trans z.1,z.2⟩
 refine fin ?_;have ex:b[j]?=some b[j]:=Zx;have gv:b.toList[j]?=some b[j]:=by rw[Array.getElem?_toList];exact ex
 have hx:b[j]∈b.toList:=Zd gv;refine wpS_bind (eI ex ?_);generalize b[j]=y at ex gv hx;have gb:∀t,t<a.size-i→a[i+t]?=some (a.getD (i+t) (.none, .none)):=fun t ht=>by simp[show i+t<a.size by lia]
 have qM:∀t,t<a.size-i→a.toList[i+t]?=some (a.getD (i+t) (.none, .none)):=fun t ht=>by rw[Array.getElem?_toList];exact gb t ht
 refine wpS_bind (pR C (fun t=>a.getD (i+t) (.none, .none)) Ic (M.ib _ hx) (fun t ht=>⟨gb t ht,M.ia _ (Zd (qM t ht))⟩) (fun t u h1 h2=>M.sa.at (i:=i+t) (j:=i+u) (by lia) (qM t (by lia)) (qM u h2)) (by lia) fun k hl h1 h2=>?_);dsimp only;have low:∀x∈(a.toList.drop i).take k,∀z∈b.toList.drop j,lt x z=true:=fun x tR z hz=>by
  obtain⟨t,ht,et⟩:=se.mp tR;rw[qM t (by lia)]at et;cases et;have iO:=Zd (qM t (by lia));have hb:=h1 t ht;simp only[kG,Bool.false_eq_true,if_false,Bool.not_eq_true']at hb;have hb:=C.no (M.ib _ hx) (M.ia _ iO) (fun z=>M.ne _ iO _ hx z.symm) hb;rw[n5 gv]at hz;rcases List.mem_cons.mp hz with rfl|hz
  ·exact hb
  ·obtain⟨u,hu⟩:=la.mp hz;exact C.tr _ (M.ia _ iO) _ (M.ib _ hx) _ (M.ib _ (Zd hu)) hb (M.sb.at Zq gv hu)
 have yq:∀x∈a.toList.drop (i+k),lt y x=true:=fun x tR=>by
  obtain⟨t,ht⟩:=la.mp tR;have ie:=(Y' ht).1;have ie:i+k+t<a.size:=by simpa using ie
  have hb:=h2 (k+t) (by lia) (by lia);have e:a.toList[i+(k+t)]?=some x:=by rw[←Nat.add_assoc];exact ht
  rw[qM (k+t) (by lia)]at e;have e:=Zp e;simp only[kG,Bool.false_eq_true,if_false,Bool.not_eq_false']at hb;rw[e]at hb;exact hb
 have m2:ML lt a.toList b.toList (o++a.extract i (i+k)).toList (i+k) j:=by
  rw[Ib];exact ml.a M (by simp;lia) low
 by_cases yr:k>0
 ·rw[Zi yr];by_cases e:(i+k+1==a.size)=true
  ·rw[Zi e];refine wpS_pure ⟨.refl _, .inl ⟨_,rfl,?_⟩⟩;rw[Au];exact m2.ls M (by have:=beq_iff_eq.mp e;simpa using this)
  ·rw[Ze e];have e:i+k+1≠a.size:=fun z=>e (beq_iff_eq.mpr z)
   by_cases e2:(i+k==a.size)=true
   ·rw[Zi e2];refine wpS_pure ⟨.refl _, .inl ⟨_,rfl,?_⟩⟩;rw[xy];exact m2.dn M (.inl (by have:=beq_iff_eq.mp e2;simpa using this))
   ·rw[Ze e2];have e2:i+k≠a.size:=fun z=>e2 (beq_iff_eq.mpr z)
    exact DO C M Ic m2 Zq hj Zq fun z hz=>by rw[gv]at hz;cases hz;exact yq
 ·rw[Ze yr];have:k=0:=by lia
  subst this;exact DO C M Ic ml hi hj Zq fun z hz=>by rw[gv]at hz;cases hz;exact yq
theorem J7{st:SortSt}{c:S2}{m:Nat}(hk:kindOf st=κ)(h:Av lt a b c.2.1 c.2.2.1 c.2.2.2.1 m):wpS (model prog w) A E s (Rk a b c) (P2 lt a b (m+2) st) st:=by
 unfold Rk;split
 ·exact DP C M hk h
 ·exact DP C M hk h
theorem J8{st:SortSt}{c:S1}{mg m:Nat}(hk:kindOf st=κ)(h:Av lt a b c.2.1 c.2.2.1 c.2.2.2.1 m):wpS (model prog w) A E s (lo1 a b mg c) (fun r aL=>aL=st∧match r with
  | .done c=>(∃x,c.1=some x∧MG lt a.toList b.toList x.toList)∨(c.1=none∧Av lt a b c.2.1 c.2.2.1 c.2.2.2.1 (m+1))
  | .yield c=>c.1=none∧Av lt a b c.2.1 c.2.2.1 c.2.2.2.1 (m+1)) st:=by
 obtain⟨r,o,i,j,ac,bc⟩:=c;obtain⟨ml,hi,hj,hm⟩:=h;dsimp only at ml hi hj hm;unfold lo1;dsimp only;have ex:a[i]?=some a[i]:=Zx;have gv:a.toList[i]?=some a[i]:=by rw[Array.getElem?_toList];exact ex
 have ey:b[j]?=some b[j]:=Zx;have yt:b.toList[j]?=some b[j]:=by rw[Array.getElem?_toList];exact ey
 have hx:a[i]∈a.toList:=Zd gv;have hy:b[j]∈b.toList:=Zd yt;refine wpS_bind (eI ey (wpS_bind (eI ex ?_)));generalize a[i]=x at ex gv hx;generalize b[j]=y at ey yt hy;refine wpS_bind (C.ask hk (M.ib _ hy) (M.ia _ hx) ?_);dsimp only;cases e:lt y x with
 |true=>
  rw[if_pos rfl];refine wpS_bind (eI ey ?_);have m2:ML lt a.toList b.toList (o.push y).toList i (j+1):=by
   have:=ml.b M (k:=1) (by simp;lia) (fun y' Nq z hz=>by
    rw[Fl yt]at Nq;have:y'=y:=by simpa using Nq
    rw[this];rw[n5 gv]at hz;rcases List.mem_cons.mp hz with rfl|hz
    ·exact e
    ·obtain⟨u,hu⟩:=la.mp hz;exact C.tr _ (M.ib _ hy) _ (M.ia _ hx) _ (M.ia _ (Zd hu)) e (M.sa.at Zq gv hu))
   rw[Fl yt]at this;rw[Array.toList_push];exact this
  by_cases e2:(j+1==b.size)=true
  ·rw[Zi e2];refine wpS_pure ⟨rfl, .inl ⟨_,rfl,?_⟩⟩;rw[xy];exact m2.dn M (.inr (by have:=beq_iff_eq.mp e2;simpa using this))
  ·rw[Ze e2];have e2:j+1≠b.size:=fun z=>e2 (beq_iff_eq.mpr z)
   split
   ·exact wpS_pure ⟨rfl, .inr ⟨rfl,m2,hi,by show j+1<b.size;lia,by show m+1≤i+(j+1);lia⟩⟩
   ·exact wpS_pure ⟨rfl,rfl,m2,hi,by show j+1<b.size;lia,by show m+1≤i+(j+1);lia⟩
 |false=>
  rw[if_neg Zr];refine wpS_bind (eI ex ?_);have e:=C.no (M.ib _ hy) (M.ia _ hx) (fun z=>M.ne _ hx _ hy z.symm) e;have m2:ML lt a.toList b.toList (o.push x).toList (i+1) j:=by
   have:=ml.a M (k:=1) (by simp;lia) (fun x' tR z hz=>by
    rw[Fl gv]at tR;have:x'=x:=by simpa using tR
    rw[this];rw[n5 yt]at hz;rcases List.mem_cons.mp hz with rfl|hz
    ·exact e
    ·obtain⟨u,hu⟩:=la.mp hz;exact C.tr _ (M.ia _ hx) _ (M.ib _ hy) _ (M.ib _ (Zd hu)) e (M.sb.at Zq yt hu))
   rw[Fl gv]at this;rw[Array.toList_push];exact this
  by_cases e2:(i+1+1==a.size)=true
  ·rw[Zi e2];refine wpS_pure ⟨rfl, .inl ⟨_,rfl,?_⟩⟩;rw[Au];exact m2.ls M (by have:=beq_iff_eq.mp e2;simpa using this)
  ·rw[Ze e2];have e2:i+1+1≠a.size:=fun z=>e2 (beq_iff_eq.mpr z)
   split
   ·exact wpS_pure ⟨rfl, .inr ⟨rfl,m2,by show i+1+1<a.size;lia,hj,by show m+1≤i+1+j;lia⟩⟩
   ·exact wpS_pure ⟨rfl,rfl,m2,by show i+1+1<a.size;lia,hj,by show m+1≤i+1+j;lia⟩
theorem J9{st:SortSt}{c:S3}{m:Nat}(hk:kindOf st=κ)(h:Av lt a b c.2.1 c.2.2.1 c.2.2.2.1 m):wpS (model prog w) A E s (Rl a b c) (fun r aL=>Eg st aL∧match r with
  | .done c=>∃x,c.1=some x∧MG lt a.toList b.toList x.toList
  | .yield c=>c.1=none∧Av lt a b c.2.1 c.2.2.1 c.2.2.2.1 (m+1)) st:=by
 unfold Rl;refine wpS_bind (wpS_mono (wpS_forRange (I:=fun x c aL=>aL=st∧c.1=none∧Av lt a b c.2.1 c.2.2.1 c.2.2.2.1 (m+x)) (Q:=fun c aL=>aL=st∧((∃x,c.1=some x∧MG lt a.toList b.toList x.toList)∨(c.1=none∧Av lt a b c.2.1 c.2.2.1 c.2.2.2.1 (m+1)))) ?_ ?_ ⟨rfl,rfl,h⟩) ?_)
 ·rintro x c aL _ hx ⟨rfl,hc,hI⟩;refine wpS_mono (J8 C M hk hI) fun r aL hr=>?_
  obtain⟨rfl,hr⟩:=hr;cases r with
  |done c=>exact⟨rfl,hr.imp id fun z=>⟨z.1,z.2.1,z.2.2.1,z.2.2.2.1,by have:=z.2.2.2.2;lia⟩⟩
  |yield c=>exact⟨rfl,hr.1,hr.2⟩
 ·rintro c aL ⟨rfl,hc,h1,h2,h3,h4⟩
  lia
 rintro t aL ⟨rfl,ht⟩;rcases ht with⟨x,e,hg⟩|⟨e,hI⟩
 ·rw[e];exact wpS_pure ⟨.refl _,x,rfl,hg⟩
 rw[e];dsimp only;refine wpS_bind (wpS_lift (wpAny_rule ⟨rfl,?_⟩));refine wpS_bind (wpS_mono (wpS_forRange (I:=fun x c dC=>Eg aL dC∧c.1=none∧Av lt a b c.2.1 c.2.2.1 c.2.2.2.1 (m+1+x)) (Q:=fun c dC=>Eg aL dC∧((∃x,c.1=some x∧MG lt a.toList b.toList x.toList)∨(c.1=none∧Av lt a b c.2.1 c.2.2.1 c.2.2.2.1 (m+1)))) ?_ ?_ ⟨.refl _,rfl,hI⟩) ?_)
 ·rintro x c dC _ hx ⟨eg,hc,hI⟩;refine wpS_mono (J7 C M (eg.1.trans hk) hI) fun r Cz hr=>?_
  obtain⟨DQ,hr⟩:=hr;cases r with
  |done c=>exact⟨eg.trans DQ,hr.imp id fun z=>⟨z.1,z.2.1,z.2.2.1,z.2.2.2.1,by have:=z.2.2.2.2;lia⟩⟩
  |yield c=>exact⟨eg.trans DQ,hr.1,hr.2.1,hr.2.2.1,hr.2.2.2.1,by have:=hr.2.2.2.2;lia⟩
 ·rintro c dC ⟨eg,hc,h1,h2,h3,h4⟩
  lia
 rintro u dC ⟨eg,hu⟩;rcases hu with⟨x,e,hg⟩|⟨e,hI⟩
 ·rw[e];exact wpS_pure ⟨eg,x,rfl,hg⟩
 rw[e];dsimp only;exact wpS_bind (rB fun Cz Rr=>wpS_pure ⟨eg.trans Rr,rfl,hI⟩)
theorem J_{st:SortSt}{Q:Array Keyed→SortSt→Prop}(hk:kindOf st=κ)(ha:0<a.size)(hb:0<b.size)(q:∀r aL,Eg st aL→MG lt a.toList b.toList r.toList→Q r aL):wpS (model prog w) A E s (J3 a b) Q st:=by
 rw[GD];refine wpS_bind (wpS_lift (wpAny_rule ⟨rfl,?_⟩));have ey:b[0]?=some b[0]:=Zx;have yt:b.toList[0]?=some b[0]:=by rw[Array.getElem?_toList];exact ey
 refine wpS_bind (eI ey ?_);have m0:ML lt a.toList b.toList [] 0 0:=⟨Zx,Zx, .nil,fun x hx=>(by cases hx),Zx⟩
 have m1:ML lt a.toList b.toList (#[b[0]]:Array Keyed).toList 0 1:=by
  have:=m0.b M (k:=1) (by simp;lia) (fun y hy x hx=>by
   rw[Fl yt]at hy;have:y=b[0]:=by simpa using hy
   rw[this];exact M.fst x (List.mem_of_mem_drop hx) _ yt)
  rw[Fl yt]at this;exact this
 by_cases e:(1==b.size)=true
 ·rw[Zi e];refine wpS_pure (q _ _ (.refl _) ?_);rw[xy];exact m1.dn M (.inr (by have:=beq_iff_eq.mp e;simpa using this))
 rw[Ze e];have e:1≠b.size:=fun z=>e (beq_iff_eq.mpr z)
 by_cases e2:(0+1==a.size)=true
 ·rw[Zi e2];refine wpS_pure (q _ _ (.refl _) ?_);rw[Au];exact m1.ls M (by have:=beq_iff_eq.mp e2;simpa using this)
 rw[Ze e2];have e2:0+1≠a.size:=fun z=>e2 (beq_iff_eq.mpr z)
 refine wpS_bind (wpS_get ?_);refine wpS_bind (wpS_mono (wpS_forRange (I:=fun x c dC=>Eg st dC∧c.1=none∧Av lt a b c.2.1 c.2.2.1 c.2.2.2.1 x) (Q:=fun c dC=>Eg st dC∧∃x,c.1=some x∧MG lt a.toList b.toList x.toList) ?_ ?_ ⟨.refl _,rfl,m1,by show 0+1<a.size;lia,by show 1<b.size;lia,by show 0≤0+1;lia⟩) ?_)
 ·rintro x c dC _ hx ⟨eg,hc,hI⟩;refine wpS_mono (J9 C M (eg.1.trans hk) hI) fun r Cz hr=>?_
  obtain⟨DQ,hr⟩:=hr;cases r with
  |done c=>exact⟨eg.trans DQ,hr⟩
  |yield c=>exact⟨eg.trans DQ,hr⟩
 ·rintro c dC ⟨eg,hc,h1,h2,h3,h4⟩
  lia
 ·rintro c dC ⟨eg,x,e,hg⟩;rw[e];exact wpS_pure (q x dC eg hg)
end
theorem vM{α:Type}{l:List α}{i:Nat}{x:α}:x∈l.take i↔∃t:Nat,t<i∧l[t]?=some x:=by
 have:=se (l:=l) (i:=0) (k:=i) (x:=x);simpa using this
theorem xA{α:Type}{l:List α}{i t:Nat}{x:α}:x∈(l.take i).drop t↔∃u:Nat,t≤u∧u<i∧l[u]?=some x:=by
 rw[la];constructor
 ·rintro⟨u,hu⟩;rw[List.getElem?_take]at hu;split at hu
  ·exact⟨t+u,by lia,by assumption,hu⟩
  ·cases hu
 ·rintro⟨u,h1,h2,h3⟩;exact⟨u-t,by rw[List.getElem?_take,Zi Zq,show t+(u-t)=u by lia];exact h3⟩
theorem xB{α:Type}(l:List α){i t:Nat}(h:t≤i):l.take i=l.take t++(l.take i).drop t:=by
 conv=>lhs;rw[←List.take_append_drop t (l.take i)]
 rw[List.take_take,Nat.min_eq_left h]
section
variable{X:List Keyed}{lt:Keyed→Keyed→Bool}{P Q:List Keyed}
structure MH(lt:Keyed→Keyed→Bool)(P Q O:List Keyed)(i j:Nat):Prop where
 hi:i≤P.length
 hj:j≤Q.length
 tQ:Pw lt O
 yq:∀y∈O,∀x,x∈P.take i∨x∈Q.take j→lt x y=true
 GH:((P.take i++Q.take j)++O).Perm (P++Q)
theorem MH.a{O:List Keyed}{i j t:Nat}(M:MC X lt P Q)(m:MH lt P Q O i j)(ht:t≤i)(h:∀x∈(P.take i).drop t,∀y∈Q.take j,lt y x=true):MH lt P Q ((P.take i).drop t++O) t j:=by
 have sp:=xB P ht;have sd:Pw lt (P.take i):=M.sa.sublist (List.take_sublist _ _);rw[sp]at sd;obtain⟨s1,s2,s3⟩:=List.pairwise_append.mp sd;refine⟨by have:=m.hi;lia,m.hj,List.pairwise_append.mpr ⟨s2,m.tQ,fun x hx y hy=>m.yq y hy x (.inl (List.mem_of_mem_drop hx))⟩,fun y hy x hx=>?_,?_⟩
 ·rcases List.mem_append.mp hy with hy|hy
  ·rcases hx with hx|hx
   ·exact s3 x hx y hy
   ·exact h y hy x hx
  ·exact m.yq y hy x (hx.imp (fun z=>by rw[sp];exact List.mem_append_left _ z) id)
 ·have:=m.GH;rw[sp]at this;refine List.Perm.trans ?_ this;rw[←List.append_assoc];refine List.Perm.append_right O ?_;rw[List.append_assoc,List.append_assoc];exact List.Perm.append_left _ List.perm_append_comm
theorem MH.b{O:List Keyed}{i j t:Nat}(M:MC X lt P Q)(m:MH lt P Q O i j)(ht:t≤j)(h:∀y∈(Q.take j).drop t,∀x∈P.take i,lt x y=true):MH lt P Q ((Q.take j).drop t++O) i t:=by
 have sp:=xB Q ht;have sd:Pw lt (Q.take j):=M.sb.sublist (List.take_sublist _ _);rw[sp]at sd;obtain⟨s1,s2,s3⟩:=List.pairwise_append.mp sd;refine⟨m.hi,by have:=m.hj;lia,List.pairwise_append.mpr ⟨s2,m.tQ,fun x hx y hy=>m.yq y hy x (.inr (List.mem_of_mem_drop hx))⟩,fun y hy x hx=>?_,?_⟩
 ·rcases List.mem_append.mp hy with hy|hy
  ·rcases hx with hx|hx
   ·exact h y hy x hx
   ·exact s3 x hx y hy
  ·exact m.yq y hy x (hx.imp id (fun z=>by rw[sp];exact List.mem_append_left _ z))
 ·have:=m.GH;rw[sp]at this;rw[←List.append_assoc,List.append_assoc (P.take i)];exact this
theorem MH.dn{O:List Keyed}{i j:Nat}(M:MC X lt P Q)(m:MH lt P Q O i j)(h:i=0∨j=0):MG lt P Q (P.take i++Q.take j++O):=by
 refine⟨m.GH,?_⟩;have sa:Pw lt (P.take i):=M.sa.sublist (List.take_sublist _ _);have sb:Pw lt (Q.take j):=M.sb.sublist (List.take_sublist _ _);refine List.pairwise_append.mpr ⟨List.pairwise_append.mpr ⟨sa,sb,fun x hx y hy=>?_⟩,m.tQ,fun x hx y hy=>m.yq y hy x (List.mem_append.mp hx)⟩;rcases h with h|h
 ·rw[h,List.take_zero]at hx;cases hx
 ·rw[h,List.take_zero]at hy;cases hy
theorem MH.fb{O:List Keyed}{i j:Nat}(M:MC X lt P Q)(m:MH lt P Q O i j)(h:j=1):MG lt P Q (Q.take j++P.take i++O):=by
 have sa:Pw lt (P.take i):=M.sa.sublist (List.take_sublist _ _);have sb:Pw lt (Q.take j):=M.sb.sublist (List.take_sublist _ _);refine⟨(List.Perm.append_right O List.perm_append_comm).trans m.GH,List.pairwise_append.mpr ⟨List.pairwise_append.mpr ⟨sb,sa,fun y hy x hx=>?_⟩,m.tQ,fun x hx y hy=>m.yq y hy x (List.mem_append.mp hx).symm⟩⟩;obtain⟨t,h1,h2⟩:=vM.mp hy;have:t=0:=by lia
 subst this;exact M.fst x (List.mem_of_mem_take hx) y h2
end
section
variable{prog:Program}{w:World}{A:Around}{E:Value→Shared→Prop}{s:Shared}{X:List Keyed}{κ:SortKind}{lt:Keyed→Keyed→Bool}(C:DL prog w A s X κ lt){a b:Array Keyed}(M:MC X lt a.toList b.toList)
theorem xC(o:Array Keyed)(i j:Nat):(Fj a b o i j).toList=a.toList.take i++b.toList.take j++o.toList.reverse:=by
 unfold Fj;simp[Array.toList_extract,List.extract_eq_take_drop]
theorem Aw(o:Array Keyed)(i j:Nat):(Lw a b o i j).toList=b.toList.take j++a.toList.take i++o.toList.reverse:=by
 unfold Lw;simp[Array.toList_extract,List.extract_eq_take_drop]
theorem Ie(o:Array Keyed)(c:Array Keyed)(t i:Nat):(o++(c.extract t i).reverse).toList.reverse=(c.toList.take i).drop t++o.toList.reverse:=by
 simp[Array.toList_extract,List.extract_eq_take_drop,List.drop_take]
theorem Ax(o:Array Keyed)(x:Keyed):(o.push x).toList.reverse=[x]++o.toList.reverse:=Zx
theorem Fm{l:List Keyed}{i:Nat}{x:Keyed}(h0:0<i)(h:l[i-1]?=some x):(l.take i).drop (i-1)=[x]:=by
 have:l.take i=l.take (i-1)++[x]:=by
  conv=>lhs;rw[show i=i-1+1 by lia]
  rw[List.take_succ,h];rfl
 rw[this];have hl:=(Y' h).1;rw[List.drop_left' (by simp;lia)]
theorem rC{l:List Keyed}(C:DL prog w A s X κ lt)(hs:Pw lt l)(pz:∀x∈l,x∈X){i:Nat}{x z:Keyed}(h:l[i-1]?=some x)(hz:z∈l.take i){y:Keyed}(hy:y∈X)(xD:lt x y=true):lt z y=true:=by
 obtain⟨t,h1,h2⟩:=vM.mp hz;by_cases e:t=i-1
 ·subst e;rw[h]at h2;cases h2;exact xD
 ·exact C.tr _ (pz _ (Zd h2)) _ (pz _ (Zd h)) _ hy (hs.at Zq h2 h) xD
def Ay(lt:Keyed→Keyed→Bool)(a b:Array Keyed)(o:Array Keyed)(i j m:Nat):Prop:=MH lt a.toList b.toList o.toList.reverse i j∧0<i∧1<j∧m+i+j≤a.size+b.size
def J'(lt:Keyed→Keyed→Bool)(a b:Array Keyed)(m:Nat)(st:SortSt)(r:ForInStep T2)(aL:SortSt):Prop:=Eg st aL∧match r with
 | .done c=>(∃x,c.1=some x∧MG lt a.toList b.toList x.toList)∨(c.1=none∧Ay lt a b c.2.2.2.1 c.2.1 c.2.2.1 m)
 | .yield c=>c.1=none∧Ay lt a b c.2.2.2.1 c.2.1 c.2.2.1 m
include C M
theorem DR{st:SortSt}{o:Array Keyed}{i j mg k l m:Nat}(ml:MH lt a.toList b.toList o.toList.reverse i j)(hi:0<i)(hj:1<j)(hm:m+i+j≤a.size+b.size+1)(h:∀x,a.toList[i-1]?=some x→∀y∈b.toList.take j,lt y x=true):wpS (model prog w) A E s (O1 a b o i j mg k l) (J' lt a b m st) st:=by
 unfold O1;have Rt:i≤a.size:=by have:=ml.hi;simpa using this
 have ex:a[i-1]?=some a[i-1]:=Zx;have gv:a.toList[i-1]?=some a[i-1]:=by rw[Array.getElem?_toList];exact ex
 refine wpS_bind (eI ex ?_);have m2:MH lt a.toList b.toList (o.push a[i-1]).toList.reverse (i-1) j:=by
  have:=ml.a M (t:=i-1) (by lia) (fun x hx y hy=>by
   rw[Fm hi gv]at hx;have:x=a[i-1]:=by simpa using hx
   rw[this];exact h _ gv y hy)
  rw[Fm hi gv]at this;rw[Ax];exact this
 by_cases e:(i-1==0)=true
 ·rw[Zi e];refine wpS_pure ⟨.refl _, .inl ⟨_,rfl,?_⟩⟩;rw[xC];exact m2.dn M (.inl (beq_iff_eq.mp e))
 ·rw[Ze e];have e:i-1≠0:=fun z=>e (beq_iff_eq.mpr z)
  split
  ·exact wpS_pure ⟨.refl _, .inr ⟨rfl,m2,by show 0<i-1;lia,hj,by show m+(i-1)+j≤_;lia⟩⟩
  ·exact wpS_pure ⟨.refl _,rfl,m2,by show 0<i-1;lia,hj,by show m+(i-1)+j≤_;lia⟩
theorem Ka{st:SortSt}{o:Array Keyed}{i j mg k bc m:Nat}(hk:kindOf st=κ)(ml:MH lt a.toList b.toList o.toList.reverse i j)(hi:0<i)(hj:1<j)(hm:m+i+j≤a.size+b.size+1):wpS (model prog w) A E s (Ro a b o i j mg k bc) (J' lt a b m st) st:=by
 unfold Ro;have Rt:i≤a.size:=by have:=ml.hi;simpa using this
 have Ru:j≤b.size:=by have:=ml.hj;simpa using this
 have ex:a[i-1]?=some a[i-1]:=Zx;have gv:a.toList[i-1]?=some a[i-1]:=by rw[Array.getElem?_toList];exact ex
 have hx:a[i-1]∈a.toList:=Zd gv;refine wpS_bind (eI ex ?_);generalize a[i-1]=x at ex gv hx;have gb:∀t,t<j→b[0+t]?=some (b.getD t (.none, .none)):=fun t ht=>by simp[show t<b.size by lia]
 have qM:∀t,t<j→b.toList[t]?=some (b.getD t (.none, .none)):=fun t ht=>by rw[Array.getElem?_toList];simpa using gb t ht
 refine wpS_bind (pR C (fun t=>b.getD t (.none, .none)) hk (M.ia _ hx) (fun t ht=>⟨gb t ht,M.ib _ (Zd (qM t ht))⟩) (fun t u h1 h2=>M.sb.at h1 (qM t (by lia)) (qM u h2)) (by lia) fun t hl h1 h2=>?_);dsimp only;have yq:∀y∈(b.toList.take j).drop t,∀z∈a.toList.take i,lt z y=true:=fun y hy z hz=>by
  obtain⟨u,h3,h4,h5⟩:=xA.mp hy;have hb:=h2 u h3 h4;rw[qM u h4]at h5;have h5:=Zp h5;simp only[kG,if_true]at hb;rw[h5]at hb;have Rv:=List.mem_of_mem_take (List.mem_of_mem_drop hy);have hb:=C.no (M.ib _ Rv) (M.ia _ hx) (fun z=>M.ne _ hx _ Rv z.symm) hb;exact rC C M.sa M.ia gv hz (M.ib _ Rv) hb
 have low:∀y∈b.toList.take t,lt y x=true:=fun y hy=>by
  obtain⟨u,h3,h4⟩:=vM.mp hy;have hb:=h1 u h3;rw[qM u Zq]at h4;have h4:=Zp h4;simp only[kG,if_true]at hb;rw[h4]at hb;exact hb
 have m2:MH lt a.toList b.toList (o++(b.extract t j).reverse).toList.reverse i t:=by
  rw[Ie];exact ml.b M hl yq
 by_cases J6:j-t>0
 ·rw[Zi J6];by_cases e:(t==1)=true
  ·rw[Zi e];refine wpS_pure ⟨.refl _, .inl ⟨_,rfl,?_⟩⟩;rw[Aw];exact m2.fb M (beq_iff_eq.mp e)
  ·rw[Ze e];have e:t≠1:=fun z=>e (beq_iff_eq.mpr z)
   by_cases e2:(t==0)=true
   ·rw[Zi e2];refine wpS_pure ⟨.refl _, .inl ⟨_,rfl,?_⟩⟩;rw[xC];exact m2.dn M (.inr (beq_iff_eq.mp e2))
   ·rw[Ze e2];have e2:t≠0:=fun z=>e2 (beq_iff_eq.mpr z)
    exact DR C M m2 hi Zq (by lia) fun y hy=>by rw[gv]at hy;cases hy;exact low
 ·rw[Ze J6];have:t=j:=by lia
  subst this;exact DR C M ml hi hj hm fun y hy=>by rw[gv]at hy;cases hy;exact low
theorem DS{st:SortSt}{o:Array Keyed}{i j mg k bc m:Nat}(hk:kindOf st=κ)(ml:MH lt a.toList b.toList o.toList.reverse i j)(hi:0<i)(hj:1<j)(hm:m+i+j≤a.size+b.size+2)(h:∀y,b.toList[j-1]?=some y→∀x∈a.toList.take i,lt x y=true):wpS (model prog w) A E s (O2 a b o i j mg k bc) (J' lt a b m st) st:=by
 unfold O2;have Ru:j≤b.size:=by have:=ml.hj;simpa using this
 have ex:b[j-1]?=some b[j-1]:=Zx;have gv:b.toList[j-1]?=some b[j-1]:=by rw[Array.getElem?_toList];exact ex
 refine wpS_bind (eI ex ?_);have m2:MH lt a.toList b.toList (o.push b[j-1]).toList.reverse i (j-1):=by
  have:=ml.b M (t:=j-1) (by lia) (fun x hx y hy=>by
   rw[Fm Zq gv]at hx;have:x=b[j-1]:=by simpa using hx
   rw[this];exact h _ gv y hy)
  rw[Fm Zq gv]at this;rw[Ax];exact this
 by_cases e:(j-1==1)=true
 ·rw[Zi e];refine wpS_pure ⟨.refl _, .inl ⟨_,rfl,?_⟩⟩;rw[Aw];exact m2.fb M (beq_iff_eq.mp e)
 ·rw[Ze e];have e:j-1≠1:=fun z=>e (beq_iff_eq.mpr z)
  exact Ka C M hk m2 hi Zq (by lia)
theorem DT{st:SortSt}{o:Array Keyed}{i j mg ac bc m:Nat}(hk:kindOf st=κ)(h:Ay lt a b o i j m):wpS (model prog w) A E s (yp a b o i j mg ac bc) (J' lt a b (m+2) st) st:=by
 obtain⟨ml,hi,hj,hm⟩:=h;have Rt:i≤a.size:=by have:=ml.hi;simpa using this
 have Ru:j≤b.size:=by have:=ml.hj;simpa using this
 unfold yp;refine wpS_bind (rB fun y9 eg=>?_);have Ic:kindOf y9=κ:=eg.1.trans hk;have fin:∀{m:Nat}{p:StateT SortSt Sem (ForInStep T2)},wpS (model prog w) A E s p (J' lt a b m y9) y9→wpS (model prog w) A E s p (J' lt a b m st) y9:=fun h=>wpS_mono h fun r aL z=>⟨eg.trans z.1,z.2⟩
 refine fin ?_;have ex:b[j-1]?=some b[j-1]:=Zx;have gv:b.toList[j-1]?=some b[j-1]:=by rw[Array.getElem?_toList];exact ex
 have hx:b[j-1]∈b.toList:=Zd gv;refine wpS_bind (eI ex ?_);generalize b[j-1]=y at ex gv hx;have gb:∀t,t<i→a[0+t]?=some (a.getD t (.none, .none)):=fun t ht=>by simp[show t<a.size by lia]
 have qM:∀t,t<i→a.toList[t]?=some (a.getD t (.none, .none)):=fun t ht=>by rw[Array.getElem?_toList];simpa using gb t ht
 refine wpS_bind (pR C (fun t=>a.getD t (.none, .none)) Ic (M.ib _ hx) (fun t ht=>⟨gb t ht,M.ia _ (Zd (qM t ht))⟩) (fun t u h1 h2=>M.sa.at h1 (qM t (by lia)) (qM u h2)) (by lia) fun t hl h1 h2=>?_);dsimp only;have yq:∀x∈(a.toList.take i).drop t,∀z∈b.toList.take j,lt z x=true:=fun x tR z hz=>by
  obtain⟨u,h3,h4,h5⟩:=xA.mp tR;have hb:=h2 u h3 h4;rw[qM u h4]at h5;have h5:=Zp h5;simp only[kG,Bool.false_eq_true,if_false,Bool.not_eq_false']at hb;rw[h5]at hb;exact rC C M.sb M.ib gv hz (M.ia _ (List.mem_of_mem_take (List.mem_of_mem_drop tR))) hb
 have low:∀x∈a.toList.take t,lt x y=true:=fun x tR=>by
  obtain⟨u,h3,h4⟩:=vM.mp tR;have hb:=h1 u h3;rw[qM u Zq]at h4;have h4:=Zp h4;have Bp:=List.mem_of_mem_take tR;simp only[kG,Bool.false_eq_true,if_false,Bool.not_eq_true']at hb;rw[h4]at hb;exact C.no (M.ib _ hx) (M.ia _ Bp) (fun z=>M.ne _ Bp _ hx z.symm) hb
 have m2:MH lt a.toList b.toList (o++(a.extract t i).reverse).toList.reverse t j:=by
  rw[Ie];exact ml.a M hl yq
 by_cases yr:i-t>0
 ·rw[Zi yr];by_cases e:(t==0)=true
  ·rw[Zi e];refine wpS_pure ⟨.refl _, .inl ⟨_,rfl,?_⟩⟩;rw[xC];exact m2.dn M (.inl (beq_iff_eq.mp e))
  ·rw[Ze e];have e:t≠0:=fun z=>e (beq_iff_eq.mpr z)
   exact DS C M Ic m2 Zq hj Zq fun z hz=>by rw[gv]at hz;cases hz;exact low
 ·rw[Ze yr];have:t=i:=by lia
  subst this;exact DS C M Ic ml hi hj Zq fun z hz=>by rw[gv]at hz;cases hz;exact low
theorem Kb{st:SortSt}{c:T2}{m:Nat}(hk:kindOf st=κ)(h:Ay lt a b c.2.2.2.1 c.2.1 c.2.2.1 m):wpS (model prog w) A E s (Rp a b c) (J' lt a b (m+2) st) st:=by
 unfold Rp;split
 ·exact DT C M hk h
 ·exact DT C M hk h
theorem Kc{st:SortSt}{c:T1}{mg m:Nat}(hk:kindOf st=κ)(h:Ay lt a b c.2.2.2.1 c.2.1 c.2.2.1 m):wpS (model prog w) A E s (GF a b mg c) (fun r aL=>aL=st∧match r with
  | .done c=>(∃x,c.1=some x∧MG lt a.toList b.toList x.toList)∨(c.1=none∧Ay lt a b c.2.2.2.1 c.2.1 c.2.2.1 (m+1))
  | .yield c=>c.1=none∧Ay lt a b c.2.2.2.1 c.2.1 c.2.2.1 (m+1)) st:=by
 obtain⟨r,i,j,o,ac,bc⟩:=c;obtain⟨ml,hi,hj,hm⟩:=h;dsimp only at ml hi hj hm;have Rt:i≤a.size:=by have:=ml.hi;simpa using this
 have Ru:j≤b.size:=by have:=ml.hj;simpa using this
 unfold GF;dsimp only;have ex:a[i-1]?=some a[i-1]:=Zx;have gv:a.toList[i-1]?=some a[i-1]:=by rw[Array.getElem?_toList];exact ex
 have ey:b[j-1]?=some b[j-1]:=Zx;have yt:b.toList[j-1]?=some b[j-1]:=by rw[Array.getElem?_toList];exact ey
 have hx:a[i-1]∈a.toList:=Zd gv;have hy:b[j-1]∈b.toList:=Zd yt;refine wpS_bind (eI ey (wpS_bind (eI ex ?_)));generalize a[i-1]=x at ex gv hx;generalize b[j-1]=y at ey yt hy;refine wpS_bind (C.ask hk (M.ib _ hy) (M.ia _ hx) ?_);dsimp only;cases e:lt y x with
 |true=>
  rw[if_pos rfl];refine wpS_bind (eI ex ?_);have m2:MH lt a.toList b.toList (o.push x).toList.reverse (i-1) j:=by
   have:=ml.a M (t:=i-1) (by lia) (fun x' tR z hz=>by
    rw[Fm hi gv]at tR;have:x'=x:=by simpa using tR
    rw[this];exact rC C M.sb M.ib yt hz (M.ia _ hx) e)
   rw[Fm hi gv]at this;rw[Ax];exact this
  by_cases e2:(i-1==0)=true
  ·rw[Zi e2];refine wpS_pure ⟨rfl, .inl ⟨_,rfl,?_⟩⟩;rw[xC];exact m2.dn M (.inl (beq_iff_eq.mp e2))
  ·rw[Ze e2];have e2:i-1≠0:=fun z=>e2 (beq_iff_eq.mpr z)
   split
   ·exact wpS_pure ⟨rfl, .inr ⟨rfl,m2,by show 0<i-1;lia,hj,by show m+1+(i-1)+j≤_;lia⟩⟩
   ·exact wpS_pure ⟨rfl,rfl,m2,by show 0<i-1;lia,hj,by show m+1+(i-1)+j≤_;lia⟩
 |false=>
  rw[if_neg Zr];refine wpS_bind (eI ey ?_);have e:=C.no (M.ib _ hy) (M.ia _ hx) (fun z=>M.ne _ hx _ hy z.symm) e;have m2:MH lt a.toList b.toList (o.push y).toList.reverse i (j-1):=by
   have:=ml.b M (t:=j-1) (by lia) (fun y' Nq z hz=>by
    rw[Fm Zq yt]at Nq;have:y'=y:=by simpa using Nq
    rw[this];exact rC C M.sa M.ia gv hz (M.ib _ hy) e)
   rw[Fm Zq yt]at this;rw[Ax];exact this
  by_cases e2:(j-1==1)=true
  ·rw[Zi e2];refine wpS_pure ⟨rfl, .inl ⟨_,rfl,?_⟩⟩;rw[Aw];exact m2.fb M (beq_iff_eq.mp e2)
  ·rw[Ze e2];have e2:j-1≠1:=fun z=>e2 (beq_iff_eq.mpr z)
   split
   ·exact wpS_pure ⟨rfl, .inr ⟨rfl,m2,hi,by show 1<j-1;lia,by show m+1+i+(j-1)≤_;lia⟩⟩
   ·exact wpS_pure ⟨rfl,rfl,m2,hi,by show 1<j-1;lia,by show m+1+i+(j-1)≤_;lia⟩
theorem Kd{st:SortSt}{c:T3}{m:Nat}(hk:kindOf st=κ)(h:Ay lt a b c.2.2.2.1 c.2.1 c.2.2.1 m):wpS (model prog w) A E s (Rq a b c) (fun r aL=>Eg st aL∧match r with
  | .done c=>∃x,c.1=some x∧MG lt a.toList b.toList x.toList
  | .yield c=>c.1=none∧Ay lt a b c.2.2.2.1 c.2.1 c.2.2.1 (m+1)) st:=by
 unfold Rq;refine wpS_bind (wpS_mono (wpS_forRange (I:=fun x c aL=>aL=st∧c.1=none∧Ay lt a b c.2.2.2.1 c.2.1 c.2.2.1 (m+x)) (Q:=fun c aL=>aL=st∧((∃x,c.1=some x∧MG lt a.toList b.toList x.toList)∨(c.1=none∧Ay lt a b c.2.2.2.1 c.2.1 c.2.2.1 (m+1)))) ?_ ?_ ⟨rfl,rfl,h⟩) ?_)
 ·rintro x c aL _ hx ⟨rfl,hc,hI⟩;refine wpS_mono (Kc C M hk hI) fun r aL hr=>?_
  obtain⟨rfl,hr⟩:=hr;cases r with
  |done c=>exact⟨rfl,hr.imp id fun z=>⟨z.1,z.2.1,z.2.2.1,z.2.2.2.1,by have:=z.2.2.2.2;lia⟩⟩
  |yield c=>exact⟨rfl,hr.1,hr.2⟩
 ·rintro c aL ⟨rfl,hc,h1,h2,h3,h4⟩
  lia
 rintro t aL ⟨rfl,ht⟩;rcases ht with⟨x,e,hg⟩|⟨e,hI⟩
 ·rw[e];exact wpS_pure ⟨.refl _,x,rfl,hg⟩
 rw[e];dsimp only;refine wpS_bind (wpS_lift (wpAny_rule ⟨rfl,?_⟩));refine wpS_bind (wpS_mono (wpS_forRange (I:=fun x c dC=>Eg aL dC∧c.1=none∧Ay lt a b c.2.2.2.1 c.2.1 c.2.2.1 (m+1+x)) (Q:=fun c dC=>Eg aL dC∧((∃x,c.1=some x∧MG lt a.toList b.toList x.toList)∨(c.1=none∧Ay lt a b c.2.2.2.1 c.2.1 c.2.2.1 (m+1)))) ?_ ?_ ⟨.refl _,rfl,hI⟩) ?_)
 ·rintro x c dC _ hx ⟨eg,hc,hI⟩;refine wpS_mono (Kb C M (eg.1.trans hk) hI) fun r Cz hr=>?_
  obtain⟨DQ,hr⟩:=hr;cases r with
  |done c=>exact⟨eg.trans DQ,hr.imp id fun z=>⟨z.1,z.2.1,z.2.2.1,z.2.2.2.1,by have:=z.2.2.2.2;lia⟩⟩
  |yield c=>exact⟨eg.trans DQ,hr.1,hr.2.1,hr.2.2.1,hr.2.2.2.1,by have:=hr.2.2.2.2;lia⟩
 ·rintro c dC ⟨eg,hc,h1,h2,h3,h4⟩
  lia
 rintro u dC ⟨eg,hu⟩;rcases hu with⟨x,e,hg⟩|⟨e,hI⟩
 ·rw[e];exact wpS_pure ⟨eg,x,rfl,hg⟩
 rw[e];dsimp only;exact wpS_bind (rB fun Cz Rr=>wpS_pure ⟨eg.trans Rr,rfl,hI⟩)
theorem Ke{st:SortSt}{Q:Array Keyed→SortSt→Prop}(hk:kindOf st=κ)(ha:0<a.size)(hb:0<b.size)(q:∀r aL,Eg st aL→MG lt a.toList b.toList r.toList→Q r aL):wpS (model prog w) A E s (J4 a b) Q st:=by
 rw[GG];refine wpS_bind (wpS_lift (wpAny_rule ⟨rfl,?_⟩));have ex:a[a.size-1]?=some a[a.size-1]:=Zx;have gv:a.toList[a.size-1]?=some a[a.size-1]:=by rw[Array.getElem?_toList];exact ex
 refine wpS_bind (eI ex ?_);have m0:MH lt a.toList b.toList [] a.size b.size:=⟨Zx,Zx, .nil,fun x hx=>(by cases hx),by rw[List.take_of_length_le Zr,List.take_of_length_le Zr];simp⟩
 have m1:MH lt a.toList b.toList (#[a[a.size-1]]:Array Keyed).toList.reverse (a.size-1) b.size:=by
  have:=m0.a M (t:=a.size-1) (by lia) (fun x hx y hy=>by
   rw[Fm ha gv]at hx;have:x=a[a.size-1]:=by simpa using hx
   rw[this];exact M.lst y (List.mem_of_mem_take hy) _ (by simpa using gv))
  rw[Fm ha gv]at this;simpa using this
 by_cases e:(a.size-1==0)=true
 ·rw[Zi e];refine wpS_pure (q _ _ (.refl _) ?_);rw[xC];exact m1.dn M (.inl (beq_iff_eq.mp e))
 rw[Ze e];have e:a.size-1≠0:=fun z=>e (beq_iff_eq.mpr z)
 by_cases e2:(b.size==1)=true
 ·rw[Zi e2];refine wpS_pure (q _ _ (.refl _) ?_);rw[Aw];exact m1.fb M (beq_iff_eq.mp e2)
 rw[Ze e2];have e2:b.size≠1:=fun z=>e2 (beq_iff_eq.mpr z)
 refine wpS_bind (wpS_get ?_);refine wpS_bind (wpS_mono (wpS_forRange (I:=fun x c dC=>Eg st dC∧c.1=none∧Ay lt a b c.2.2.2.1 c.2.1 c.2.2.1 x) (Q:=fun c dC=>Eg st dC∧∃x,c.1=some x∧MG lt a.toList b.toList x.toList) ?_ ?_ ⟨.refl _,rfl,m1,by show 0<a.size-1;lia,by show 1<b.size;lia,by show 0+(a.size-1)+b.size≤_;lia⟩) ?_)
 ·rintro x c dC _ hx ⟨eg,hc,hI⟩;refine wpS_mono (Kd C M (eg.1.trans hk) hI) fun r Cz hr=>?_
  obtain⟨DQ,hr⟩:=hr;cases r with
  |done c=>exact⟨eg.trans DQ,hr⟩
  |yield c=>exact⟨eg.trans DQ,hr⟩
 ·rintro c dC ⟨eg,hc,h1,h2,h3,h4⟩
  lia
 ·rintro c dC ⟨eg,x,e,hg⟩;rw[e];exact wpS_pure (q x dC eg hg)
end
def O3(lo i n:Nat):StateT SortSt Sem AscSt:=forIn [i:n] ((none,i):AscSt) fun _ c=>do
 let z←ltAt' (lo+c.2) (lo+c.2-1)
 match z with
 |some v=>if v=true then pure (.done (none,c.2))else pure (.yield (none,c.2+1))
 | _=>pure (.done (some none,c.2))
def O4(lo i n:Nat):StateT SortSt Sem (Option Nat):=do
 reverseSlice' lo (lo+i)
 let t←O3 lo i n
 match t.1 with
 |some r=>pure r
 |none=>pure (some t.2)
def Rw(lo i n:Nat):StateT SortSt Sem DescSt:=forIn [i:n] ((none,i,0):DescSt) fun _ c=>do
 let z←ltAt' (lo+c.2.1) (lo+c.2.1-1)
 match z with
 |some v=>
  if v=true then
   if c.2.2>0 then do
    reverseSlice' (lo+c.2.1-(c.2.2+1)) (lo+c.2.1)
    pure (.yield (none,c.2.1+1,0))
   else pure (.yield (none,c.2.1+1,0))
  else do
   let z←ltAt' (lo+c.2.1-1) (lo+c.2.1)
   match z with
   |some v=>if v=true then pure (.done (none,c.2.1,c.2.2))else pure (.yield (none,c.2.1+1,c.2.2+1))
   | _=>pure (.done (some none,c.2.1,c.2.2))
 | _=>pure (.done (some none,c.2.1,c.2.2))
def Rx(lo i n:Nat):StateT SortSt Sem (Option Nat):=do
 liftM (rule "list.sort.descending-run")
 let t←Rw lo (i+1) n
 match t.1 with
 |some r=>pure r
 |none=>
  if t.2.2>0 then do
   reverseSlice' (lo+t.2.1-(t.2.2+1)) (lo+t.2.1)
   O4 lo t.2.1 n
  else O4 lo t.2.1 n
theorem Kf(lo n:Nat):countRun' lo n=(do
 let t←O3 lo 1 n
 match t.1 with
 |some r=>pure r
 |none=>
  if (t.2==n)=true then pure (some t.2)
  else if t.2>1 then do
   let z←ltAt' lo (lo+t.2-1)
   match z with
   |some v=>if v=true then pure (some t.2)else do
     reverseSlice' lo (lo+t.2)
     Rx lo t.2 n
   | _=>pure none
  else Rx lo t.2 n):=by kernel_rfl
def TU(lo k:Nat):StateT SortSt Sem (Option Bool×Nat×Nat):=forIn [0:k] ((none,0,k):Option Bool×Nat×Nat) fun _ c=>
 if c.2.1≥c.2.2 then pure (.done (none,c.2.1,c.2.2))
 else do
  let z←ltAt' (lo+k) (lo+(c.2.1+c.2.2)/2)
  match z with
  |some v=>if v=true then pure (.yield (none,c.2.1,(c.2.1+c.2.2)/2))else pure (.yield (none,(c.2.1+c.2.2)/2+1,c.2.2))
  | _=>pure (.done (some false,c.2.1,c.2.2))
theorem Kg(lo n ok:Nat):binarySort' lo n ok=(do
 let t←forIn [max ok 1:n] ((none,()):Option Bool×Unit) fun k _=>do
  let t←TU lo k
  match t.1 with
  |some r=>pure (.done (some r,()))
  |none=>do
   moveDown' (lo+k) (lo+t.2.1)
   pure (.yield (none,()))
 match t.1 with
 |some r=>pure r
 |none=>pure true):=by kernel_rfl
def Cf(j:Nat)(m:Array Keyed)(st:SortSt):SortSt:=setArr st (m.toList.zipIdx.foldl (fun c q=>c.setIfInBounds (j+q.2) q.1) (arrOf st))
theorem Kh(i:Nat):mergeAt' i=(do
 let g←get
 let (some (p,m,v),some (q,n,_)):=((pendingOf g)[i]?,(pendingOf g)[i+1]?)|unsupported "internal:list.sort.pending"
 set (setPending g (((pendingOf g).setIfInBounds i (p,m+n,v)).eraseIdxIfInBounds (i+1)))
 let some k←xx false (←elem' (arrOf g) q) (arrOf g) p m 0|return false
 if m-k==0 then return true
 let some n←xx true (←elem' (arrOf g) (p+k+(m-k)-1)) (arrOf g) q n (n-1)|return false
 if n==0 then return true
 let r←if m-k≤n then J3 ((arrOf g).extract (p+k) q) ((arrOf g).extract q (q+n))else J4 ((arrOf g).extract (p+k) q) ((arrOf g).extract q (q+n))
 modify fun st=>Cf (p+k) r st
 return (failedOf (←get)).isNone):=by kernel_rfl
def Ry(n w:Nat):StateT SortSt Sem (Option Unit×Unit):=forIn [0:n] ((none,()):Option Unit×Unit) fun _ _=>do
 let g←get
 match (if (pendingOf g).size>1 then(pendingOf g)[(pendingOf g).size-2]? else none)with
 |some (_,_,v)=>
  if v≤w then pure (.done (none,()))
  else do
   let z←mergeAt' ((pendingOf g).size-2)
   if (!z)=true then pure (.done (some (),()))else pure (.yield (none,()))
 | _=>pure (.done (none,()))
def TX(w:Nat)(st:SortSt):SortSt:=setPending st ((pendingOf st).modify ((pendingOf st).size-1) fun(p,l,_)=>(p,l,w))
def O5(lo n:Nat)(st:SortSt):SortSt:=setPending st ((pendingOf st).push (lo,n,0))
def O6(N lo n:Nat):StateT SortSt Sem (ForInStep (Option Unit×Nat)):=do
 let g←get
 match (pendingOf g).back? with
 |some (p,l,_)=>do
  let t←Ry N (power' N (2*p+l) (2*p+l+l+n) N)
  match t.1 with
  |some r=>pure (.done (some r,lo))
  |none=>do
   modify (TX (power' N (2*p+l) (2*p+l+l+n) N))
   modify (O5 lo n)
   pure (.yield (none,lo+n))
 | _=>do
  modify (O5 lo n)
  pure (.yield (none,lo+n))
def Rz(N:Nat):StateT SortSt Sem (Option Unit×Unit):=forIn [0:N] ((none,()):Option Unit×Unit) fun _ _=>do
 let g←get
 if (pendingOf g).size≤1 then pure (.done (none,()))
 else do
  let z←mergeAt' (if (if (pendingOf g).size-2>0 then((pendingOf g)[(pendingOf g).size-2-1]?).map (·.2.1)else none).any (·<((pendingOf g)[(pendingOf g).size-2+1]?.elim 0 (·.2.1)))then(pendingOf g).size-2-1 else(pendingOf g).size-2)
  if (!z)=true then pure (.done (some (),()))else pure (.yield (none,()))
theorem GI:sortRuns'=(do
 let g←get
 let t←forIn [0:(arrOf g).size] ((none,0):Option Unit×Nat) fun _ c=>
  if c.2≥(arrOf g).size then pure (.done (none,c.2))
  else do
   let z←countRun' c.2 ((arrOf g).size-c.2)
   match z with
   |some n=>
    if n<minRun' (arrOf g).size (arrOf g).size 0 then do
     liftM (rule "list.sort.binary-insertion")
     let z←binarySort' c.2 (min ((arrOf g).size-c.2) (minRun' (arrOf g).size (arrOf g).size 0)) n
     if (!z)=true then pure (.done (some (),c.2))else O6 (arrOf g).size c.2 (min ((arrOf g).size-c.2) (minRun' (arrOf g).size (arrOf g).size 0))
    else O6 (arrOf g).size c.2 n
   | _=>pure (.done (some (),c.2))
 match t.1 with
 |some r=>pure r
 |none=>do
  let u←Rz (arrOf g).size
  match u.1 with
  |some r=>pure r
  |none=>pure ()):=by kernel_rfl
abbrev gg(xs:Array Keyed)(k:Nat):Keyed:=xs.getD k (.none, .none)
theorem n8(xs:Array Keyed)(k:Nat):gg xs k=(xs[k]?).getD (.none, .none):=by unfold gg;rw[Array.getD_eq_getD_getElem?]
theorem kC{xs:Array Keyed}{k:Nat}(h:k<xs.size):xs[k]?=some (gg xs k):=by simp[h]
def Sw(lt:Keyed→Keyed→Bool)(xs:Array Keyed)(a b:Nat):Prop:=∀i j,a≤i→i<j→j<b→lt (gg xs i) (gg xs j)=true
def Dw(lt:Keyed→Keyed→Bool)(xs:Array Keyed)(a b:Nat):Prop:=∀i j,a≤i→i<j→j<b→lt (gg xs j) (gg xs i)=true
theorem Sw.congr{lt:Keyed→Keyed→Bool}{xs ys:Array Keyed}{a b:Nat}(h:Sw lt xs a b)(e:∀t,a≤t→t<b→gg ys t=gg xs t):Sw lt ys a b:=fun i j h1 h2 h3=>by rw[e i h1 Zq,e j Zq h3];exact h i j h1 h2 h3
structure SB(X:List Keyed)(κ:SortKind)(st:SortSt):Prop where
 pm:(arrOf st).toList.Perm X
 kd:kindOf st=κ
 fl:failedOf st=none
theorem GJ{σ:Type}{M:Model}{A:Around}{E:Value→Shared→Prop}{s:Shared}{x:σ}{Q:PUnit→σ→Prop}{st:σ}(h:Q ⟨⟩ x):wpS M A E s (set x:StateT σ Sem PUnit) Q st:=by
 unfold wpS;rw[StateT.run_set];exact wpAny_pure ⟨rfl,h⟩
section
variable{prog:Program}{w:World}{A:Around}{E:Value→Shared→Prop}{s:Shared}{X:List Keyed}{κ:SortKind}{lt:Keyed→Keyed→Bool}
theorem SB.size{st:SortSt}(b:SB X κ st):(arrOf st).size=X.length:=by have:=b.pm.length_eq;simpa using this
theorem SB.mem{st:SortSt}(b:SB X κ st){k:Nat}(h:k<X.length):gg (arrOf st) k∈X:=by
 have:=kC (xs:=arrOf st) (k:=k) (by rw[b.size];exact h);rw[←Array.getElem?_toList]at this;exact b.pm.mem_iff.mp (Zd this)
theorem SB.inj{st:SortSt}(C:DL prog w A s X κ lt)(b:SB X κ st){i j:Nat}(hi:i<X.length)(hj:j<X.length)(h:i≠j):gg (arrOf st) i≠gg (arrOf st) j:=fun e=>by
 have h1:=kC (xs:=arrOf st) (k:=i) (by rw[b.size];exact hi);have h2:=kC (xs:=arrOf st) (k:=j) (by rw[b.size];exact hj);rw[←Array.getElem?_toList]at h1 h2;have nd:(arrOf st).toList.Nodup:=b.pm.nodup_iff.mpr C.nd;exact h ((List.getElem?_inj (Y' h1).1 nd).mp (by rw[h1,h2,e]))
theorem SB.set{st:SortSt}{xs:Array Keyed}(b:SB X κ st)(h:xs.Perm (arrOf st)):SB X κ (setArr st xs):=⟨(Array.perm_iff_toList_perm.mp h).trans b.pm,b.kd,b.fl⟩
variable(C:DL prog w A s X κ lt)
include C
theorem xE{st:SortSt}{i j:Nat}{Q:Option Bool→SortSt→Prop}(b:SB X κ st)(hi:i<X.length)(hj:j<X.length)(h:Q (some (lt (gg (arrOf st) i) (gg (arrOf st) j))) st):wpS (model prog w) A E s (ltAt' i j) Q st:=by
 rw[ltAt'_eq];refine wpS_bind (wpS_get ?_);show wpS _ _ _ _ (do let x←elem' (arrOf st) i;let y←elem' (arrOf st) j;lt' x y) Q st;exact wpS_bind (eI (kC (by rw[b.size];exact hi)) (wpS_bind (eI (kC (by rw[b.size];exact hj)) (C.ask b.kd (b.mem hi) (b.mem hj) h))))
theorem SB.no{st:SortSt}(b:SB X κ st){i j:Nat}(hi:i<X.length)(hj:j<X.length)(h:i≠j)(e:lt (gg (arrOf st) i) (gg (arrOf st) j)=false):lt (gg (arrOf st) j) (gg (arrOf st) i)=true:=C.no (b.mem hi) (b.mem hj) (b.inj C hi hj h) e
theorem Sw.next{st:SortSt}(b:SB X κ st){lo n:Nat}(h1:1≤n)(hn:lo+n<X.length)(h:Sw lt (arrOf st) lo (lo+n))(e:lt (gg (arrOf st) (lo+n)) (gg (arrOf st) (lo+n-1))=false):Sw lt (arrOf st) lo (lo+(n+1)):=fun i j hi nZ hj=>by
 have hl:=b.no C (i:=lo+n) (j:=lo+n-1) hn Zq (by lia) e;by_cases ej:j=lo+n
 ·subst ej;by_cases ei:i=lo+n-1
  ·subst ei;exact hl
  ·exact C.tr _ (b.mem Zq) _ (b.mem Zq) _ (b.mem hn) (h i (lo+n-1) hi Zq (by lia)) hl
 ·exact h i j hi nZ Zq
theorem DV{st:SortSt}{lo i n:Nat}{Q:AscSt→SortSt→Prop}(b:SB X κ st)(hn:lo+n≤X.length)(h1:1≤i)(pz:i≤n)(hs:Sw lt (arrOf st) lo (lo+i))(q:∀m,i≤m→m≤n→Sw lt (arrOf st) lo (lo+m)→(m=n∨lt (gg (arrOf st) (lo+m)) (gg (arrOf st) (lo+m-1))=true)→Q (none,m) st):wpS (model prog w) A E s (O3 lo i n) Q st:=by
 unfold O3;refine wpS_forRange (I:=fun x c aL=>aL=st∧c=(none,x)∧Sw lt (arrOf st) lo (lo+x)) ?_ ?_ ⟨rfl,rfl,hs⟩
 ·rintro x c aL kW hx ⟨rfl,rfl,kK⟩;refine wpS_bind (xE C b (by show lo+x<_;lia) (by show lo+x-1<_;lia) ?_);dsimp only;cases e:lt (gg (arrOf aL) (lo+x)) (gg (arrOf aL) (lo+x-1))with
  |true=>
   rw[if_pos rfl];exact wpS_pure (q x kW Zq kK (.inr e))
  |false=>
   rw[if_neg Zr];exact wpS_pure ⟨rfl,rfl,Sw.next C b (by lia) (by lia) kK e⟩
 ·rintro c aL ⟨rfl,rfl,kK⟩;rw[show max i n=n by lia]at kK⊢;exact q n pz (Nat.le_refl _) kK (.inl rfl)
omit C in
theorem y_{xs:Array Keyed}{i j:Nat}(hj:j≤xs.size)(k:Nat):gg (mirror xs i j ((j-i)/2)) k=if i≤k∧k<j then gg xs (i+j-1-k)else gg xs k:=by
 rw[n8,getElem?_mirror_all hj];split<;>rw[n8]
theorem Ki{st:SortSt}{lo i n:Nat}{Q:Option Nat→SortSt→Prop}(b:SB X κ st)(hn:lo+n≤X.length)(h1:1≤i)(pz:i≤n)(hs:Dw lt (arrOf st) lo (lo+i))(q:∀m aL,SB X κ aL→pendingOf aL=pendingOf st→(∀t,t<lo→gg (arrOf aL) t=gg (arrOf st) t)→1≤m→m≤n→Sw lt (arrOf aL) lo (lo+m)→Q (some m) aL):wpS (model prog w) A E s (O4 lo i n) Q st:=by
 unfold O4;refine wpS_bind ?_;rw[reverseSlice'_eq];refine wpS_modify ?_;have hsz:lo+i≤(arrOf st).size:=by rw[b.size];lia
 have b':SB X κ (setArr st (mirror (arrOf st) lo (lo+i) ((lo+i-lo)/2))):=b.set (mirror_perm _ _ _ _);refine wpS_bind (DV C b' hn h1 pz (fun x y hx xD hy=>?_) fun m a1 a2 a3 _=>wpS_pure (q m _ b' rfl (fun t ht=>?_) (by lia) a2 a3))
 ·show lt (gg (mirror (arrOf st) lo (lo+i) ((lo+i-lo)/2)) x) (gg (mirror (arrOf st) lo (lo+i) ((lo+i-lo)/2)) y)=true;rw[y_ hsz,y_ hsz,Zi Zq,Zi Zq];exact hs _ _ (by lia) (by lia) (by lia)
 ·show gg (mirror (arrOf st) lo (lo+i) ((lo+i-lo)/2)) t=_;rw[y_ hsz,Ze Zq]
theorem Kj{st:SortSt}{lo i n:Nat}{Q:DescSt→SortSt→Prop}(b:SB X κ st)(hn:lo+n≤X.length)(h1:1≤i)(pz:i≤n)(hs:Dw lt (arrOf st) lo (lo+i))(q:∀m,i≤m→m≤n→Dw lt (arrOf st) lo (lo+m)→Q (none,m,0) st):wpS (model prog w) A E s (Rw lo i n) Q st:=by
 unfold Rw;refine wpS_forRange (I:=fun x c aL=>aL=st∧c=(none,x,0)∧Dw lt (arrOf st) lo (lo+x)) ?_ ?_ ⟨rfl,rfl,hs⟩
 ·rintro x c aL kW hx ⟨rfl,rfl,kK⟩;refine wpS_bind (xE C b (by show lo+x<_;lia) (by show lo+x-1<_;lia) ?_);dsimp only;cases e:lt (gg (arrOf aL) (lo+x)) (gg (arrOf aL) (lo+x-1))with
  |true=>
   rw[if_pos rfl,Ze Zq];refine wpS_pure ⟨rfl,rfl,fun y z hy Wt hz=>?_⟩;by_cases ez:z=lo+x
   ·subst ez;by_cases ey:y=lo+x-1
    ·subst ey;exact e
    ·exact C.tr _ (b.mem Zq) _ (b.mem Zq) _ (b.mem Zq) e (kK y (lo+x-1) hy Zq (by lia))
   ·exact kK y z hy Wt Zq
  |false=>
   rw[if_neg Zr];have e':=b.no C (i:=lo+x) (j:=lo+x-1) (by lia) (by lia) (by lia) e;refine wpS_bind (xE C b (by lia) (by lia) ?_);rw[e'];dsimp only;rw[if_pos rfl];exact wpS_pure (q x kW Zq kK)
 ·rintro c aL ⟨rfl,rfl,kK⟩;rw[show max i n=n by lia]at kK⊢;exact q n pz (Nat.le_refl _) kK
theorem Nr{st:SortSt}{lo n:Nat}{Q:Option Nat→SortSt→Prop}(b:SB X κ st)(hn:lo+n≤X.length)(h1:1≤n)(q:∀m aL,SB X κ aL→pendingOf aL=pendingOf st→(∀t,t<lo→gg (arrOf aL) t=gg (arrOf st) t)→1≤m→m≤n→Sw lt (arrOf aL) lo (lo+m)→Q (some m) aL):wpS (model prog w) A E s (countRun' lo n) Q st:=by
 rw[Kf];refine wpS_bind (DV C b hn (Nat.le_refl _) h1 (fun i j a b c=>by lia) fun m a1 a2 a3 a4=>?_);dsimp only;by_cases e:(m==n)=true
 ·rw[Zi e];exact wpS_pure (q m st b rfl (fun _ _=>rfl) a1 a2 a3)
 ·rw[Ze e];have e:m≠n:=fun z=>e (beq_iff_eq.mpr z)
  by_cases e2:m>1
  ·rw[Zi e2];refine wpS_bind (xE C b (by lia) (by lia) ?_);rw[a3 lo (lo+m-1) (Nat.le_refl _) (by lia) (by lia)];dsimp only;rw[if_pos rfl];exact wpS_pure (q m st b rfl (fun _ _=>rfl) a1 a2 a3)
  ·rw[Ze e2];have:m=1:=by lia
   subst this;unfold Rx;refine wpS_bind (wpS_lift (wpAny_rule ⟨rfl,?_⟩));refine wpS_bind (Kj C b hn Zq (by lia) (fun i j hi nZ hj=>?_) fun m c1 c2 c3=>?_)
   ·have hi:i=lo:=by lia
    have hj:j=lo+1:=by lia
    subst hi hj;exact a4.resolve_left e
   ·dsimp only;rw[Ze Zq];exact Ki C b hn Zq c2 c3 q
omit C in
theorem Kk{xs:Array Keyed}{src d:Nat}(hs:src<xs.size)(hd:d≤src)(k:Nat):gg (bubble xs src d) k=if k=src-d then gg xs src else if src-d<k∧k≤src then gg xs (k-1)else gg xs k:=by
 rw[n8,getElem?_bubble hs d hd];by_cases h1:k=src-d
 ·rw[Zi h1,Zi h1,n8]
 ·rw[Ze h1,Ze h1];by_cases h2:src-d<k∧k≤src
  ·rw[Zi h2,Zi h2,n8]
  ·rw[Ze h2,Ze h2,n8]
theorem Nt{st:SortSt}{lo n ok:Nat}{Q:Bool→SortSt→Prop}(b:SB X κ st)(hn:lo+n≤X.length)(h1:1≤ok)(bH:ok≤n)(hs:Sw lt (arrOf st) lo (lo+ok))(q:∀aL,SB X κ aL→pendingOf aL=pendingOf st→(∀t,t<lo→gg (arrOf aL) t=gg (arrOf st) t)→Sw lt (arrOf aL) lo (lo+n)→Q true aL):wpS (model prog w) A E s (binarySort' lo n ok) Q st:=by
 rw[Kg];refine wpS_bind (wpS_mono (wpS_forRange (I:=fun k c aL=>c=(none,())∧SB X κ aL∧pendingOf aL=pendingOf st∧(∀t,t<lo→gg (arrOf aL) t=gg (arrOf st) t)∧Sw lt (arrOf aL) lo (lo+k)) (Q:=fun c aL=>c=(none,())∧SB X κ aL∧pendingOf aL=pendingOf st∧(∀t,t<lo→gg (arrOf aL) t=gg (arrOf st) t)∧Sw lt (arrOf aL) lo (lo+n)) ?_ ?_ ⟨rfl,b,rfl,fun _ _=>rfl,by rw[show max ok 1=ok by lia];exact hs⟩) ?_)
 ·rintro k c aL Ic hk ⟨rfl,b',hp,hf,kK⟩;unfold TU;refine wpS_bind (wpS_mono (wpS_forRange (I:=fun x c dC=>dC=aL∧∃l r,c=(none,l,r)∧l≤r∧r≤k∧(∀i,i<l→lt (gg (arrOf aL) (lo+i)) (gg (arrOf aL) (lo+k))=true)∧(∀i,r≤i→i<k→lt (gg (arrOf aL) (lo+k)) (gg (arrOf aL) (lo+i))=true)∧r-l+x≤k) (Q:=fun c dC=>dC=aL∧∃l r,c=(none,l,r)∧l≤k∧(∀i,i<l→lt (gg (arrOf aL) (lo+i)) (gg (arrOf aL) (lo+k))=true)∧(∀i,l≤i→i<k→lt (gg (arrOf aL) (lo+k)) (gg (arrOf aL) (lo+i))=true)) ?_ ?_ ⟨rfl,0,k,rfl,by lia,by lia,fun i hi=>by lia,fun i h1 h2=>by lia,by lia⟩) ?_)
  ·rintro x c dC _ hx ⟨rfl,l,r,rfl,a1,a2,a3,a4,a5⟩;dsimp only;by_cases TY:l≥r
   ·rw[Zi TY];exact wpS_pure ⟨rfl,l,r,rfl,by lia,a3,fun i h1 h2=>a4 i Zq h2⟩
   ·rw[Ze TY];refine wpS_bind (xE C b' Zq (by lia) ?_);dsimp only;cases e:lt (gg (arrOf dC) (lo+k)) (gg (arrOf dC) (lo+(l+r)/2))with
    |true=>
     rw[if_pos rfl];refine wpS_pure ⟨rfl,l,(l+r)/2,rfl,by lia,by lia,a3,fun i h1 h2=>?_,by lia⟩;by_cases ei:i=(l+r)/2
     ·subst ei;exact e
     ·exact C.tr _ (b'.mem Zq) _ (b'.mem Zq) _ (b'.mem Zq) e (kK (lo+(l+r)/2) (lo+i) (by lia) (by lia) (by lia))
    |false=>
     rw[if_neg Zr];have e':=b'.no C (i:=lo+k) (j:=lo+(l+r)/2) (by lia) (by lia) (by lia) e;refine wpS_pure ⟨rfl,(l+r)/2+1,r,rfl,by lia,a2,fun i h1=>?_,a4,by lia⟩;by_cases ei:i=(l+r)/2
     ·subst ei;exact e'
     ·exact C.tr _ (b'.mem Zq) _ (b'.mem Zq) _ (b'.mem Zq) (kK (lo+i) (lo+(l+r)/2) (by lia) (by lia) (by lia)) e'
  ·rintro c dC ⟨rfl,l,r,rfl,a1,a2,a3,a4,a5⟩;exact⟨rfl,l,r,rfl,by lia,a3,fun i h1 h2=>a4 i Zq h2⟩
  rintro c dC ⟨rfl,l,r,rfl,a1,a2,a3⟩;dsimp only;refine wpS_bind ?_;rw[moveDown'_eq];refine wpS_modify (wpS_pure ?_);have hsz:lo+k<(arrOf dC).size:=by rw[b'.size];lia
  have gb:=fun t=>Kk (xs:=arrOf dC) hsz (d:=lo+k-(lo+l)) (by lia) t
  have es:lo+k-(lo+k-(lo+l))=lo+l:=by lia
  rw[es]at gb;refine⟨rfl,b'.set (bubble_perm _ _ _),hp,fun t ht=>?_,fun i j hi nZ hj=>?_⟩
  ·show gg (bubble (arrOf dC) (lo+k) (lo+k-(lo+l))) t=_;rw[gb,Ze Zq,Ze Zq];exact hf t ht
  ·show lt (gg (bubble (arrOf dC) (lo+k) (lo+k-(lo+l))) i) (gg (bubble (arrOf dC) (lo+k) (lo+k-(lo+l))) j)=true;rw[gb,gb];have Wu:∀t,lo≤t→t<lo+l→lt (gg (arrOf dC) t) (gg (arrOf dC) (lo+k))=true:=fun t h1 h2=>by have:=a2 (t-lo) (by lia);rw[show lo+(t-lo)=t by lia]at this;exact this
   have RA:∀t,lo+l≤t→t<lo+k→lt (gg (arrOf dC) (lo+k)) (gg (arrOf dC) t)=true:=fun t h1 h2=>by have:=a3 (t-lo) (by lia) (by lia);rw[show lo+(t-lo)=t by lia]at this;exact this
   by_cases e1:i=lo+l
   ·rw[Zi e1,Ze Zq,Zi Zq];exact RA _ (by lia) (by lia)
   ·rw[Ze e1];by_cases e2:lo+l<i∧i≤lo+k
    ·rw[Zi e2,Ze Zq,Zi Zq];exact kK _ _ (by lia) (by lia) (by lia)
    ·rw[Ze e2];by_cases e3:j=lo+l
     ·rw[Zi e3];exact Wu _ (by lia) (by lia)
     ·rw[Ze e3];by_cases e4:lo+l<j∧j≤lo+k
      ·rw[Zi e4];exact kK _ _ (by lia) (by lia) (by lia)
      ·rw[Ze e4];exact kK _ _ (by lia) (by lia) (by lia)
 ·rintro c aL ⟨rfl,b',hp,hf,kK⟩;rw[show max (max ok 1) n=n by lia]at kK;exact⟨rfl,b',hp,hf,kK⟩
 ·rintro c aL ⟨rfl,b',hp,hf,kK⟩;exact wpS_pure (q aL b' hp hf kK)
end
theorem Kl(ys:List Keyed)(j:Nat):∀(k:Nat)(xs:Array Keyed),j+k+ys.length≤xs.size→∀t:Nat,((ys.zipIdx k).foldl (fun c q=>c.setIfInBounds (j+q.2) q.1) xs)[t]?=if j+k≤t∧t<j+k+ys.length then ys[t-(j+k)]? else xs[t]?:=by
 induction ys with
 |nil=>
  intro k xs h t;rw[Ze (fun z=>by have z1:=z.1;have z2:=z.2;simp only[List.length_nil]at z2;lia)];rfl
 |cons y ys ih=>
  intro k xs h t;rw[List.zipIdx_cons,List.foldl_cons,ih (k+1) _ (by simp at h⊢;lia) t];simp only[List.length_cons]at h⊢;by_cases h1:j+(k+1)≤t∧t<j+(k+1)+ys.length
  ·rw[Zi h1,Zi Zq,show t-(j+k)=(t-(j+(k+1)))+1 by lia];rfl
  ·rw[Ze h1,Array.getElem?_setIfInBounds];by_cases h2:j+k=t
   ·subst h2;rw[if_pos rfl,Zi Zq,Zi Zq];simp
   ·rw[Ze h2,Ze Zq]
theorem DW(ys:List Keyed)(j:Nat)(xs:Array Keyed)(h:j+ys.length≤xs.size):(ys.zipIdx.foldl (fun c q=>c.setIfInBounds (j+q.2) q.1) xs).toList=xs.toList.take j++ys++xs.toList.drop (j+ys.length):=by
 apply List.ext_getElem?;intro t;rw[Array.getElem?_toList,Kl ys j 0 xs Zq t,Nat.add_zero];by_cases h1:t<j
 ·rw[Ze Zq,List.append_assoc,List.getElem?_append_left (by simp;lia),List.getElem?_take,Zi h1,Array.getElem?_toList]
 ·by_cases h2:t<j+ys.length
  ·rw[Zi Zq,List.append_assoc,List.getElem?_append_right (by simp;lia),List.getElem?_append_left (by simp;lia)]
   congr 1
   simp
   lia
  ·rw[Ze Zq,List.getElem?_append_right (by simp;lia),List.getElem?_drop,Array.getElem?_toList]
   congr 1
   simp
   lia
section
variable{prog:Program}{w:World}{A:Around}{E:Value→Shared→Prop}{s:Shared}{X:List Keyed}{κ:SortKind}{lt:Keyed→Keyed→Bool}
theorem Sw.pw{xs:Array Keyed}{p m:Nat}(h:Sw lt xs p (p+m)):Pw lt ((xs.toList.drop p).take m):=by
 refine List.pairwise_iff_getElem.mpr ?_;intro i j hi hj nZ;have Gf:j<m∧p+j<xs.size:=by simp at hj;lia
 have e1:((xs.toList.drop p).take m)[i]=gg xs (p+i):=by
  have:((xs.toList.drop p).take m)[i]?=some (gg xs (p+i)):=by rw[List.getElem?_take,Zi Zq,List.getElem?_drop,Array.getElem?_toList];exact kC Zq
  exact(Y' this).2
 have e2:((xs.toList.drop p).take m)[j]=gg xs (p+j):=by
  have:((xs.toList.drop p).take m)[j]?=some (gg xs (p+j)):=by rw[List.getElem?_take,Zi Zq,List.getElem?_drop,Array.getElem?_toList];exact kC Zq
  exact(Y' this).2
 rw[e1,e2];exact h _ _ (by lia) (by lia) (by lia)
theorem DX{xs:Array Keyed}{p m t:Nat}(h:t<m)(hs:p+m≤xs.size):((xs.toList.drop p).take m)[t]?=some (gg xs (p+t)):=by
 rw[List.getElem?_take,Zi h,List.getElem?_drop,Array.getElem?_toList];exact kC Zq
variable(C:DL prog w A s X κ lt)
include C
theorem Nu{st:SortSt}{i p m v n u:Nat}{Q:Bool→SortSt→Prop}(b:SB X κ st)(e1:(pendingOf st)[i]?=some (p,m,v))(e2:(pendingOf st)[i+1]?=some (p+m,n,u))(hm:1≤m)(hn:1≤n)(hX:p+m+n≤X.length)(s1:Sw lt (arrOf st) p (p+m))(s2:Sw lt (arrOf st) (p+m) (p+m+n))
  (q:∀aL,SB X κ aL→pendingOf aL=((pendingOf st).setIfInBounds i (p,m+n,v)).eraseIdxIfInBounds (i+1)→(∀t,t<p∨p+m+n≤t→gg (arrOf aL) t=gg (arrOf st) t)→Sw lt (arrOf aL) p (p+m+n)→Q true aL):wpS (model prog w) A E s (mergeAt' i) Q st:=by
 rw[Kh];refine wpS_bind (wpS_get ?_);rw[e1,e2];dsimp only;refine wpS_bind (GJ ?_);have hsz:=b.size;refine wpS_bind (eI (kC (xs:=arrOf st) (k:=p+m) (by lia)) ?_);have mem:∀t,t<X.length→gg (arrOf st) t∈X:=fun t h=>b.mem h
 generalize Km:setPending st (((pendingOf st).setIfInBounds i (p,m+n,v)).eraseIdxIfInBounds (i+1))=y9;have DY:arrOf y9=arrOf st:=by rw[←Km]
 have b1:SB X κ y9:=by rw[←Km];exact⟨b.pm,b.kd,b.fl⟩
 have Fn:pendingOf y9=((pendingOf st).setIfInBounds i (p,m+n,v)).eraseIdxIfInBounds (i+1):=by rw[←Km]
 refine wpS_bind (pR C (fun t=>gg (arrOf st) (p+t)) b1.kd (mem _ (by lia)) (fun t ht=>⟨kC Zq,mem _ (by lia)⟩) (fun x y h1 h2=>s1 _ _ (by lia) (by lia) (by lia)) (by lia) fun k hk g1 g2=>?_);dsimp only;have Nv:∀t,t<k→lt (gg (arrOf st) (p+t)) (gg (arrOf st) (p+m))=true:=fun t ht=>by
  have:=g1 t ht;simp only[kG,Bool.false_eq_true,if_false,Bool.not_eq_true']at this;exact b.no C (by lia) (by lia) (by lia) this
 have T8:∀t,k≤t→t<m→lt (gg (arrOf st) (p+m)) (gg (arrOf st) (p+t))=true:=fun t h1 h2=>by
  have:=g2 t h1 h2;simp only[kG,Bool.false_eq_true,if_false,Bool.not_eq_false']at this;exact this
 have tr:=fun{x y z:Nat}(hx:x<X.length)(hy:y<X.length)(hz:z<X.length)=>C.tr _ (mem x hx) _ (mem y hy) _ (mem z hz)
 by_cases ek:(m-k==0)=true
 ·rw[Zi ek];have:k=m:=by have:=beq_iff_eq.mp ek;lia
  subst this;refine wpS_pure (q y9 b1 Fn (fun _ _=>by rw[DY]) ?_);rw[DY];intro x y hx xD hy;by_cases h1:y<p+k
  ·exact s1 x y hx xD h1
  ·by_cases h2:p+k≤x
   ·exact s2 x y h2 xD hy
   ·have h3:=Nv (x-p) (by lia);rw[show p+(x-p)=x by lia]at h3;by_cases h4:y=p+k
    ·rw[h4];exact h3
    ·exact tr Zq (by lia) (by lia) h3 (s2 (p+k) y Zq (by lia) hy)
 rw[Ze ek];have ek:k<m:=by
  have:m-k≠0:=fun z=>ek (beq_iff_eq.mpr z)
  lia
 refine wpS_bind (eI (kC (xs:=arrOf st) (k:=p+k+(m-k)-1) (by lia)) ?_);rw[show p+k+(m-k)-1=p+m-1 by lia];refine wpS_bind (pR C (fun t=>gg (arrOf st) (p+m+t)) b1.kd (mem _ (by lia)) (fun t ht=>⟨kC Zq,mem _ (by lia)⟩) (fun x y h1 h2=>s2 _ _ (by lia) (by lia) (by lia)) (by lia) fun l hl g3 g4=>?_);dsimp only;have RB:∀t,t<l→lt (gg (arrOf st) (p+m+t)) (gg (arrOf st) (p+m-1))=true:=fun t ht=>by
  have:=g3 t ht;simp only[kG,if_true]at this;exact this
 have T9:∀t,l≤t→t<n→lt (gg (arrOf st) (p+m-1)) (gg (arrOf st) (p+m+t))=true:=fun t h1 h2=>by
  have:=g4 t h1 h2;simp only[kG,if_true]at this;exact b.no C (by lia) (by lia) (by lia) this
 have J6:0<l:=by
  rcases Nat.lt_or_ge 0 l with h|h
  ·exact h
  ·have h1:=T9 0 (by lia) (by lia);have h2:=T8 (m-1) (by lia) (by lia);rw[show p+(m-1)=p+m-1 by lia]at h2;rw[Nat.add_zero]at h1;have:=C.as _ (mem _ (by lia)) _ (mem _ (by lia)) h1;rw[h2]at this;cases this
 rw[Ze (by simp;lia)];have ex:((arrOf st).extract (p+k) (p+m)).toList=((arrOf st).toList.drop (p+k)).take (m-k):=by
  simp[Array.toList_extract,List.extract_eq_take_drop]
  congr 1
  lia
 have ey:((arrOf st).extract (p+m) (p+m+l)).toList=((arrOf st).toList.drop (p+m)).take l:=by
  simp[Array.toList_extract,List.extract_eq_take_drop]
 have T_:∀t,t<m-k→(((arrOf st).toList.drop (p+k)).take (m-k))[t]?=some (gg (arrOf st) (p+k+t)):=fun t ht=>DX ht Zq
 have Ua:∀t,t<l→(((arrOf st).toList.drop (p+m)).take l)[t]?=some (gg (arrOf st) (p+m+t)):=fun t ht=>DX ht Zq
 have lx:(((arrOf st).toList.drop (p+k)).take (m-k)).length=m-k:=by simp;lia
 have ly:(((arrOf st).toList.drop (p+m)).take l).length=l:=by simp;lia
 have O7:∀x∈((arrOf st).toList.drop (p+k)).take (m-k),∃t,t<m-k∧x=gg (arrOf st) (p+k+t):=fun x hx=>by
  obtain⟨t,ht⟩:=List.mem_iff_getElem?.mp hx;have ie:=(Y' ht).1;rw[lx]at ie;rw[T_ t ie]at ht;exact⟨t,ie,(Zp ht).symm⟩
 have O8:∀x∈((arrOf st).toList.drop (p+m)).take l,∃t,t<l∧x=gg (arrOf st) (p+m+t):=fun x hx=>by
  obtain⟨t,ht⟩:=List.mem_iff_getElem?.mp hx;have ie:=(Y' ht).1;rw[ly]at ie;rw[Ua t ie]at ht;exact⟨t,ie,(Zp ht).symm⟩
 have MM:MC X lt ((arrOf st).extract (p+k) (p+m)).toList ((arrOf st).extract (p+m) (p+m+l)).toList:=by
  rw[ex,ey];refine⟨Sw.pw fun x y h1 h2 h3=>s1 x y Zq h2 Zq,Sw.pw fun x y h1 h2 h3=>s2 x y h1 h2 Zq,fun x hx=>?_,fun x hx=>?_,fun x hx y hy=>?_,fun x hx y hy=>?_,fun y hy x hx=>?_⟩
  ·obtain⟨t,ht,rfl⟩:=O7 x hx;exact mem _ (by lia)
  ·obtain⟨t,ht,rfl⟩:=O8 x hx;exact mem _ (by lia)
  ·obtain⟨t,ht,rfl⟩:=O7 x hx;obtain⟨u,hu,rfl⟩:=O8 y hy;exact b.inj C (by lia) (by lia) (by lia)
  ·obtain⟨t,ht,rfl⟩:=O7 x hx;rw[Ua 0 J6]at hy;cases hy;have:=T8 (k+t) (by lia) (by lia);rw[←Nat.add_assoc]at this;exact this
  ·obtain⟨t,ht,rfl⟩:=O8 y hy;rw[lx,T_ _ (by lia)]at hx;cases hx;rw[show p+k+(m-k-1)=p+m-1 by lia];exact RB t ht
 have fin:∀r dC,Eg y9 dC→MG lt ((arrOf st).extract (p+k) (p+m)).toList ((arrOf st).extract (p+m) (p+m+l)).toList r.toList→wpS (model prog w) A E s (do
   modify fun st=>Cf (p+k) r st
   return (failedOf (←get)).isNone) Q dC:=fun r dC eg mg=>by
  refine wpS_bind (wpS_modify (wpS_bind (wpS_get (wpS_pure ?_))));have Lx:arrOf dC=arrOf st:=eg.2.1.trans DY;have Ly:failedOf dC=none:=eg.2.2.2.trans b1.fl;rw[ex,ey]at mg;have Lz:r.toList.length=m-k+l:=by have:=mg.1.length_eq;rw[List.length_append,lx,ly]at this;exact this
  have el:(arrOf (Cf (p+k) r dC)).toList=(arrOf st).toList.take (p+k)++r.toList++(arrOf st).toList.drop (p+m+l):=by
   show(r.toList.zipIdx.foldl (fun c q=>c.setIfInBounds (p+k+q.2) q.1) (arrOf dC)).toList=_;rw[DW _ _ _ (by rw[Lx,Lz];lia),Lx,Lz,show p+k+(m-k+l)=p+m+l by lia]
  have Wv:(arrOf st).toList=(arrOf st).toList.take (p+k)++(((arrOf st).toList.drop (p+k)).take (m-k)++((arrOf st).toList.drop (p+m)).take l)++(arrOf st).toList.drop (p+m+l):=by
   have h1:=n6 (arrOf st).toList (p+k) (m-k);have h2:=n6 (arrOf st).toList (p+m) l;rw[show p+k+(m-k)=p+m by lia]at h1
   conv=>lhs;rw[←List.take_append_drop (p+k) (arrOf st).toList,h1,h2]
   simp only[List.append_assoc]
  have RD:∀t,gg (arrOf (Cf (p+k) r dC)) t=((arrOf (Cf (p+k) r dC)).toList[t]?).getD (.none, .none):=fun t=>by rw[n8,Array.getElem?_toList]
  have g0:∀t,gg (arrOf st) t=((arrOf st).toList[t]?).getD (.none, .none):=fun t=>by rw[n8,Array.getElem?_toList]
  have Kn:∀t,t<p+k→gg (arrOf (Cf (p+k) r dC)) t=gg (arrOf st) t:=fun t ht=>by
   rw[RD,g0,el,List.append_assoc,List.getElem?_append_left (by simp;lia),List.getElem?_take,Zi ht]
  have D_:∀t,p+m+l≤t→gg (arrOf (Cf (p+k) r dC)) t=gg (arrOf st) t:=fun t ht=>by
   have ie:((arrOf st).toList.take (p+k)++r.toList).length=p+m+l:=by
    rw[List.length_append,Lz,List.length_take,Array.length_toList]
    lia
   rw[RD,g0,el,List.getElem?_append_right Zq,List.getElem?_drop,ie]
   congr 2
   lia
  have RE:∀t,p+k≤t→t<p+m+l→r.toList[t-(p+k)]?=some (gg (arrOf (Cf (p+k) r dC)) t):=fun t h1 h2=>by
   rw[RD,el,List.append_assoc,List.getElem?_append_right (by simp;lia),List.getElem?_append_left (by rw[List.length_take,Array.length_toList];lia)];rw[show(List.take (p+k) (arrOf st).toList).length=p+k by simp;lia];rw[List.getElem?_eq_getElem Zq];rfl
  have cont:∀t,p+k≤t→t<p+m+l→∃u,p+k≤u∧u<p+m+l∧gg (arrOf (Cf (p+k) r dC)) t=gg (arrOf st) u:=fun t h1 h2=>by
   have:=mg.1.mem_iff.mp (Zd (RE t h1 h2));rcases List.mem_append.mp this with z|z
   ·obtain⟨u,hu,e⟩:=O7 _ z;exact⟨p+k+u,by lia,by lia,e⟩
   ·obtain⟨u,hu,e⟩:=O8 _ z;exact⟨p+m+u,by lia,by lia,e⟩
  have hb:SB X κ (Cf (p+k) r dC):=by
   refine⟨?_,eg.1.trans b1.kd,Ly⟩;rw[el];refine List.Perm.trans ?_ b.pm
   conv=>rhs;rw[Wv]
   exact(List.Perm.append_left _ mg.1).append_right _
  have L9:(failedOf (Cf (p+k) r dC)).isNone=true:=by rw[show failedOf (Cf (p+k) r dC)=failedOf dC from rfl,Ly];rfl
  rw[L9];refine q _ hb (eg.2.2.1.trans Fn) (fun t ht=>?_) fun x y hx xD hy=>?_
  ·rcases ht with ht|ht
   ·exact Kn t (by lia)
   ·exact D_ t (by lia)
  ·
   have A1:∀t u,p≤t→t<p+k→p+k≤u→u<p+m+n→lt (gg (arrOf st) t) (gg (arrOf st) u)=true:=fun t u h1 h2 h3 h4=>by
    by_cases h5:u<p+m
    ·exact s1 t u h1 Zq h5
    ·have h6:=Nv (t-p) (by lia);rw[show p+(t-p)=t by lia]at h6;by_cases h7:u=p+m
     ·rw[h7];exact h6
     ·exact tr Zq (by lia) (by lia) h6 (s2 (p+m) u Zq (by lia) h4)
   have A2:∀t u,p+k≤t→t<p+m+l→p+m+l≤u→u<p+m+n→lt (gg (arrOf st) t) (gg (arrOf st) u)=true:=fun t u h1 h2 h3 h4=>by
    by_cases h5:p+m≤t
    ·exact s2 t u h5 Zq h4
    ·have h6:=T9 (u-(p+m)) (by lia) (by lia);rw[show p+m+(u-(p+m))=u by lia]at h6;by_cases h7:t=p+m-1
     ·rw[h7];exact h6
     ·exact tr Zq (by lia) (by lia) (s1 t (p+m-1) (by lia) (by lia) (by lia)) h6
   by_cases h1:x<p+k
   ·rw[Kn x h1];by_cases h2:y<p+k
    ·rw[Kn y h2];exact s1 x y hx xD Zq
    ·by_cases h3:y<p+m+l
     ·obtain⟨u,u1,u2,u3⟩:=cont y Zq h3;rw[u3];exact A1 x u hx h1 u1 Zq
     ·rw[D_ y Zq];exact A1 x y hx h1 Zq hy
   ·by_cases h3:x<p+m+l
    ·by_cases h4:y<p+m+l
     ·exact mg.2.at (i:=x-(p+k)) (j:=y-(p+k)) (by lia) (RE x (by lia) h3) (RE y Zq h4)
     ·rw[D_ y Zq];obtain⟨u,u1,u2,u3⟩:=cont x (by lia) h3;rw[u3];exact A2 u y u1 u2 Zq hy
    ·rw[D_ x (by lia),D_ y Zq];exact s2 x y Zq xD hy
 have sx:0<((arrOf st).extract (p+k) (p+m)).size:=by simp;lia
 have sy:0<((arrOf st).extract (p+m) (p+m+l)).size:=by simp;lia
 by_cases Ub:m-k≤l
 ·rw[Zi Ub];exact wpS_bind (J_ C MM b1.kd sx sy fin)
 ·rw[Ze Ub];exact wpS_bind (Ke C MM b1.kd sx sy fin)
end
abbrev Rn:=Nat×Nat×Nat
def Ch:List Rn→Nat→Nat→Prop
 |[],s,e=>s=e
 |q::r,s,e=>q.1=s∧1≤q.2.1∧Ch r (s+q.2.1) e
theorem Ch.all:∀{l:List Rn}{s e:Nat},Ch l s e→s+l.length≤e∧∀q∈l,s≤q.1∧q.1+q.2.1≤e
 |[],s,e,h=>⟨by have:s=e:=h;simp;lia,fun q hq=>by cases hq⟩
 |q::r,s,e,⟨h1,h2,h3⟩=>by
  obtain⟨a1,a2⟩:=Ch.all h3;refine⟨by simp;lia,fun x hx=>?_⟩;rcases List.mem_cons.mp hx with rfl|hx
  ·lia
  ·have:=a2 x hx;lia
theorem Ch.split:∀{l r:List Rn}{s e:Nat},Ch (l++r) s e↔∃m,Ch l s m∧Ch r m e
 |[],r,s,e=>⟨fun h=>⟨s,rfl,h⟩,fun⟨m,h1,h2⟩=>by have:s=m:=h1;rw[this];exact h2⟩
 |q::l,r,s,e=>by
  constructor
  ·rintro⟨h1,h2,h3⟩;obtain⟨m,a1,a2⟩:=Ch.split.mp h3;exact⟨m,⟨h1,h2,a1⟩,a2⟩
  ·rintro⟨m,⟨h1,h2,a1⟩,a2⟩;exact⟨h1,h2,Ch.split.mpr ⟨m,a1,a2⟩⟩
theorem Ch.mod{f:Rn→Rn}(hf:∀q,(f q).1=q.1∧(f q).2.1=q.2.1):∀{l:List Rn}{j s e:Nat},Ch l s e→Ch (l.modify j f) s e
 |[],j,s,e,h=>by simpa using h
 |q::r,0,s,e,h=>by
  rw[List.modify_zero_cons];obtain⟨h1,h2,h3⟩:=h;refine⟨by rw[(hf q).1];exact h1,by rw[(hf q).2];exact h2,by rw[(hf q).2];exact h3⟩
 |q::r,j+1,s,e,h=>by
  rw[List.modify_succ_cons];exact⟨h.1,h.2.1,Ch.mod hf h.2.2⟩
theorem Az{f:Rn→Rn}:∀{l:List Rn}{j:Nat}{q:Rn},q∈l.modify j f→q∈l∨∃x∈l,q=f x
 |[],j,q,h=>by simp at h
 |x::r,0,q,h=>by
  rw[List.modify_zero_cons]at h;rcases List.mem_cons.mp h with h|h
  ·exact .inr ⟨x,Zx,h⟩
  ·exact .inl (List.mem_cons_of_mem _ h)
 |x::r,j+1,q,h=>by
  rw[List.modify_succ_cons]at h;rcases List.mem_cons.mp h with h|h
  ·exact .inl (by rw[h];simp)
  ·rcases Az h with h|⟨y,h1,h2⟩
   ·exact .inl (List.mem_cons_of_mem _ h)
   ·exact .inr ⟨y,List.mem_cons_of_mem _ h1,h2⟩
structure RI(X:List Keyed)(κ:SortKind)(lt:Keyed→Keyed→Bool)(st:SortSt)(lo n:Nat):Prop where
 b:SB X κ st
 ch:Ch (pendingOf st).toList 0 lo
 sw:∀q∈(pendingOf st).toList,Sw lt (arrOf st) q.1 (q.1+q.2.1)
 tl:Sw lt (arrOf st) lo (lo+n)
section
variable{prog:Program}{w:World}{A:Around}{E:Value→Shared→Prop}{s:Shared}{X:List Keyed}{κ:SortKind}{lt:Keyed→Keyed→Bool}(C:DL prog w A s X κ lt)
include C
theorem Ig{st:SortSt}{lo n i:Nat}{Q:Bool→SortSt→Prop}(r:RI X κ lt st lo n)(Lp:lo≤X.length)(hi:i+1<(pendingOf st).size)(q:∀aL,RI X κ lt aL lo n→(pendingOf aL).size+1=(pendingOf st).size→Q true aL):wpS (model prog w) A E s (mergeAt' i) Q st:=by
 have hl:(pendingOf st).toList.length=(pendingOf st).size:=Zx;obtain⟨P1,x,y,P2,e,el⟩:∃P1 x y P2,(pendingOf st).toList=P1++x::y::P2∧P1.length=i:=by
  refine⟨(pendingOf st).toList.take i,(pendingOf st).toList[i],(pendingOf st).toList[i+1],(pendingOf st).toList.drop (i+2),?_,by simp;lia⟩
  conv=>lhs;rw[←List.take_append_drop i (pendingOf st).toList]
  rw[List.drop_eq_getElem_cons Zq,List.drop_eq_getElem_cons Zq]
 obtain⟨p,m,v⟩:=x;obtain⟨p2,k,u⟩:=y;have ch:=r.ch;rw[e]at ch;obtain⟨mid,c1,c2⟩:=Ch.split.mp ch;obtain⟨d1,d2,d3,d4,d5⟩:=c2;dsimp only at d1 d2 d3 d4 d5;subst d1 d3;have a1:=c1.all;have a2:=d5.all;have i1:(pendingOf st)[i]?=some (p,m,v):=by rw[←Array.getElem?_toList,e,List.getElem?_append_right Zq,el];simp
 have i2:(pendingOf st)[i+1]?=some (p+m,k,u):=by rw[←Array.getElem?_toList,e,List.getElem?_append_right Zq,el];simp
 have w1:=r.sw (p,m,v) (by rw[e];simp);have w2:=r.sw (p+m,k,u) (by rw[e];simp);refine Nu C r.b i1 i2 d2 d4 Zq w1 w2 fun aL b' hp Ko QX=>?_
 have ep:(pendingOf aL).toList=P1++(p,m+k,v)::P2:=by
  rw[hp];simp only[Array.toList_eraseIdxIfInBounds,Array.toList_setIfInBounds];rw[e,List.set_append_right _ _ (by lia),el,Nat.sub_self,List.set_cons_zero,List.eraseIdx_append_of_length_le Zq,el,show i+1-i=1 by lia];rfl
 refine q aL ⟨b',?_,fun z hz=>?_,r.tl.congr fun t h1 h2=>Ko t (.inr Zq)⟩ ?_
 ·rw[ep];refine Ch.split.mpr ⟨p,c1,rfl,by show 1≤m+k;lia,?_⟩;show Ch P2 (p+(m+k)) lo;rw[←Nat.add_assoc];exact d5
 ·rw[ep]at hz;rcases List.mem_append.mp hz with hz|hz
  ·have h1:=a1.2 z hz;exact(r.sw z (by rw[e];simp[hz])).congr fun t _ h2=>Ko t (.inl Zq)
  ·rcases List.mem_cons.mp hz with rfl|hz
   ·show Sw lt (arrOf aL) p (p+(m+k));rw[←Nat.add_assoc];exact QX
   ·have h1:=a2.2 z hz;exact(r.sw z (by rw[e];simp[hz])).congr fun t h2 _=>Ko t (.inr Zq)
 ·have h1:=congrArg List.length ep;have h2:=congrArg List.length e;simp at h1 h2
  lia
theorem Kq{st:SortSt}{lo n N w':Nat}{Q:Option Unit×Unit→SortSt→Prop}(r:RI X κ lt st lo n)(Lp:lo≤X.length)(q:∀aL,RI X κ lt aL lo n→Q (none,()) aL):wpS (model prog w) A E s (Ry N w') Q st:=by
 unfold Ry;refine wpS_forRange (I:=fun _ c aL=>c=(none,())∧RI X κ lt aL lo n) ?_ (fun c aL h=>by rw[h.1];exact q aL h.2) ⟨rfl,r⟩;rintro x c aL _ _ ⟨rfl,r'⟩;refine wpS_bind (wpS_get ?_);by_cases hs:(pendingOf aL).size>1
 ·rw[Zi hs];have e:(pendingOf aL)[(pendingOf aL).size-2]?=some (pendingOf aL)[(pendingOf aL).size-2]:=Zx;rw[e];generalize (pendingOf aL)[(pendingOf aL).size-2]=z;obtain⟨z1,z2,z3⟩:=z;dsimp only;split
  ·exact wpS_pure (q aL r')
  ·refine wpS_bind (Ig C r' Lp Zq fun dC r2 _=>?_);rw[if_neg Zr];exact wpS_pure ⟨rfl,r2⟩
 ·rw[Ze hs];exact wpS_pure (q aL r')
theorem Ea{st:SortSt}{lo n N:Nat}{Q:ForInStep (Option Unit×Nat)→SortSt→Prop}(r:RI X κ lt st lo n)(h1:1≤n)(Lp:lo+n≤X.length)(q:∀aL,RI X κ lt aL (lo+n) 0→Q (.yield (none,lo+n)) aL):wpS (model prog w) A E s (O6 N lo n) Q st:=by
 have push:∀aL,RI X κ lt aL lo n→RI X κ lt (O5 lo n aL) (lo+n) 0:=fun aL r'=>by
  have ep:(pendingOf (O5 lo n aL)).toList=(pendingOf aL).toList++[(lo,n,0)]:=by
   show((pendingOf aL).push (lo,n,0)).toList=_;simp
  refine⟨⟨r'.b.pm,r'.b.kd,r'.b.fl⟩,?_,fun z hz=>?_,fun i j a b c=>by lia⟩
  ·rw[ep];exact Ch.split.mpr ⟨lo,r'.ch,rfl,h1,rfl⟩
  ·rw[ep]at hz;rcases List.mem_append.mp hz with hz|hz
   ·exact r'.sw z hz
   ·have:z=(lo,n,0):=by simpa using hz
    subst this;exact r'.tl
 unfold O6;refine wpS_bind (wpS_get ?_);cases e:(pendingOf st).back? with
 |none=>exact wpS_bind (wpS_modify (wpS_pure (q _ (push _ r))))
 |some z=>
  obtain⟨z1,z2,z3⟩:=z;dsimp only;refine wpS_bind (Kq C r Zq fun dC r2=>?_);dsimp only;refine wpS_bind (wpS_modify (wpS_bind (wpS_modify (wpS_pure (q _ (push _ ?_))))));have ep:(pendingOf (TX (power' N (2*z1+z2) (2*z1+z2+z2+n) N) dC)).toList=(pendingOf dC).toList.modify ((pendingOf dC).size-1) fun(p,l,_)=>(p,l,power' N (2*z1+z2) (2*z1+z2+z2+n) N):=by
   show((pendingOf dC).modify _ _).toList=_;simp
  refine⟨⟨r2.b.pm,r2.b.kd,r2.b.fl⟩,?_,fun z hz=>?_,r2.tl⟩
  ·rw[ep];refine Ch.mod ?_ r2.ch;exact fun _=>⟨rfl,rfl⟩
  ·rw[ep]at hz;rcases Az hz with hz|⟨x,h1,h2⟩
   ·exact r2.sw z hz
   ·rw[h2];exact r2.sw x h1
theorem Kr{st:SortSt}{N:Nat}{Q:Option Unit×Unit→SortSt→Prop}(hN:N=X.length)(h0:0<N)(r:RI X κ lt st N 0)(q:∀aL,SB X κ aL→Sw lt (arrOf aL) 0 N→Q (none,()) aL):wpS (model prog w) A E s (Rz N) Q st:=by
 have one:∀aL,RI X κ lt aL N 0→(pendingOf aL).size≤1→Q (none,()) aL:=fun aL r' hs=>by
  have ch:=r'.ch;have sw:=r'.sw;cases e:(pendingOf aL).toList with
  |nil=>rw[e]at ch;have:0=N:=ch;lia
  |cons x l=>
   have hl:l=[]:=by
    have:=congrArg List.length e;simp at this;exact List.length_eq_zero_iff.mp Zq
   subst hl;rw[e]at ch sw;obtain⟨c1,c2,c3⟩:=ch;have c3:0+x.2.1=N:=c3;have:=sw x (Zx);rw[c1,c3]at this;exact q aL r'.b this
 unfold Rz;refine wpS_forRange (I:=fun x c aL=>c=(none,())∧RI X κ lt aL N 0∧((pendingOf aL).size+x≤N∨(pendingOf aL).size≤1)) ?_ ?_ ⟨rfl,r, .inl ?_⟩
 ·rintro x c aL _ hx ⟨rfl,r',hs⟩;refine wpS_bind (wpS_get ?_);by_cases h1:(pendingOf aL).size≤1
  ·rw[Zi h1];exact wpS_pure (one aL r' h1)
  ·rw[Ze h1];refine wpS_bind (Ig C r' Zq ?_ fun dC r2 FH=>?_)
   ·have key:∀c:Bool,(if c=true then(pendingOf aL).size-2-1 else(pendingOf aL).size-2)+1<(pendingOf aL).size:=fun c=>by cases c<;>simp<;>lia
    exact key _
   ·rw[if_neg Zr];exact wpS_pure ⟨rfl,r2,by lia⟩
 ·rintro c aL ⟨rfl,r',hs⟩;exact one aL r' (by rcases hs with hs|hs<;>lia)
 ·have:=r.ch.all.1;simp at this
  lia
theorem Kt{st:SortSt}{Q:Unit→SortSt→Prop}(h0:0<X.length)(b:SB X κ st)(hp:pendingOf st=#[])(q:∀aL,SB X κ aL→Sw lt (arrOf aL) 0 X.length→Q () aL):wpS (model prog w) A E s sortRuns' Q st:=by
 rw[GI];refine wpS_bind (wpS_get ?_);rw[b.size];refine wpS_bind (wpS_mono (wpS_forRange (I:=fun x c aL=>∃lo,c=(none,lo)∧RI X κ lt aL lo 0∧lo≤X.length∧x≤lo) (Q:=fun c aL=>c.1=none∧RI X κ lt aL X.length 0) ?_ ?_ ⟨0,rfl,⟨b,by rw[hp];rfl,(fun q hq=>by rw[hp]at hq;cases hq),fun i j a b c=>by lia⟩,by lia,by lia⟩) ?_)
 ·rintro x c aL _ hx ⟨lo,rfl,r,Lp,Uc⟩;dsimp only;by_cases h1:lo≥X.length
  ·rw[Zi h1];have:lo=X.length:=by lia
   subst this;exact wpS_pure ⟨rfl,r⟩
  ·rw[Ze h1];refine wpS_bind (Nr C r.b Zq (by lia) fun m dC b2 Fg Ly m1 m2 O9=>?_);dsimp only;have r2:RI X κ lt dC lo m:=⟨b2,by rw[Fg];exact r.ch,fun z hz=>by
    rw[Fg]at hz;have:=r.ch.all.2 z hz;exact(r.sw z hz).congr fun t _ h2=>Ly t (by lia),O9⟩
   by_cases h2:m<minRun' X.length X.length 0
   ·rw[Zi h2];refine wpS_bind (wpS_lift (wpAny_rule ⟨rfl,?_⟩));refine wpS_bind (Nt C b2 (n:=min (X.length-lo) (minRun' X.length X.length 0)) (by lia) m1 Zq O9 fun Cz b3 Eb RF Ww=>?_);rw[if_neg Zr];refine Ea C ⟨b3,by rw[Eb,Fg];exact r.ch,fun z hz=>?_,Ww⟩ Zq (by lia) fun OP r4=>⟨_,rfl,r4,by lia,by lia⟩
    rw[Eb]at hz;have:=r2.ch.all.2 z hz;exact(r2.sw z hz).congr fun t _ h2=>RF t (by lia)
   ·rw[Ze h2];exact Ea C r2 m1 Zq fun OP r4=>⟨_,rfl,r4,by lia,by lia⟩
 ·rintro c aL ⟨lo,rfl,r,Lp,Uc⟩;have:lo=X.length:=by lia
  subst this;exact⟨rfl,r⟩
 ·rintro⟨c1,c2⟩ aL ⟨e,r⟩;dsimp only at e⊢;subst e;exact wpS_bind (Kr C rfl h0 r fun dC b2 O9=>wpS_pure (q dC b2 O9))
end
open Classical in
noncomputable def Ec(X:List Keyed)(x:Keyed):Nat:=if h:∃i:Nat,X[i]?=some x then Classical.choose h else 0
theorem mV{X:List Keyed}{x:Keyed}(h:x∈X):X[Ec X x]?=some x:=by
 have h':∃i:Nat,X[i]?=some x:=List.mem_iff_getElem?.mp h;unfold Ec;rw[dif_pos h'];exact Classical.choose_spec h'
theorem Ku{X:List Keyed}(nd:X.Nodup){i:Nat}{x:Keyed}(h:X[i]?=some x):Ec X x=i:=by
 have:=mV (Zd h);exact(List.getElem?_inj (Y' this).1 nd).mp (this.trans h.symm)
theorem mW{X:List Keyed}{x:Keyed}(h:x∈X):Ec X x<X.length:=(Y' (mV h)).1
section
variable{prog:Program}{w:World}{A:Around}{E:Value→Shared→Prop}{s:Shared}{X:List Keyed}{κ:SortKind}{lt:Nat→Nat→Bool}
theorem GK{st:SortSt}{Q:Unit→SortSt→Prop}(nd:X.Nodup)(h0:0<X.length)(L:xw X.length lt)(ha:(arrOf st).toList=X)(hk:kindOf st=κ)(hp:pendingOf st=#[])(hf:failedOf st=none)
  (hc:∀i j x y,X[i]?=some x→X[j]?=some y→∀C:Bool→Shared→Prop,C (lt i j) s→wpAny (model prog w) A (keyLt' κ x.1 y.1) C (fun _ _=>False) s)
  (q:∀p aL,wU X.length p→Sd lt p X.length→(arrOf aL).toList=p.toList.map (fun i=>X.getD i (.none, .none))→failedOf aL=none→Q () aL):wpS (model prog w) A E s sortRuns' Q st:=by
 have C:DL prog w A s X κ fun x y=>lt (Ec X x) (Ec X y):=by
  refine⟨fun x hx y hy=>hc _ _ x y (mV hx) (mV hy),fun x hx y hy z hz=>L.tr _ _ _ (mW hx) (mW hy) (mW hz),fun x hx y hy=>L.as _ _ (mW hx) (mW hy),fun x hx y hy hn=>L.OX _ _ (mW hx) (mW hy) fun e=>hn ?_,nd⟩;have h1:=mV hx;rw[e,mV hy]at h1;exact(Zp h1).symm
 refine Kt C h0 ⟨by rw[ha],hk,hf⟩ hp fun aL b sw=>?_
 have mem:∀x∈(arrOf aL).toList,x∈X:=fun x hx=>b.pm.mem_iff.mp hx
 refine q ((arrOf aL).map (Ec X)) aL ?_ (fun i j nZ hj=>?_) ?_ b.fl
 ·unfold wU;rw[Array.toList_map];have h1:=b.pm.map (Ec X);have h2:X.map (Ec X)=List.range X.length:=by
   apply List.ext_getElem
   ·simp
   ·intro i h1 h2;simp only[List.getElem_map,List.getElem_range];exact Ku nd (by simp at h1;simp[h1])
  rw[h2]at h1;exact h1
 ·have:=sw i j (Nat.zero_le _) nZ hj;have g:∀k,k<X.length→gd ((arrOf aL).map (Ec X)) k=Ec X (gg (arrOf aL) k):=fun k hk=>by
   have DB:k<(arrOf aL).size:=by rw[b.size];exact hk
   rw[DK,n8];simp[DB]
  rw[g i Zq,g j hj];exact this
 ·rw[Array.toList_map,List.map_map]
  conv=>lhs;rw[←List.map_id (arrOf aL).toList]
  apply List.map_congr_left;intro x hx;have:=mV (mem x hx);simp[List.getD_eq_getElem?_getD,this]
theorem AA{ks vs:List Value}(hl:ks.length=vs.length)(h0:0<vs.length)(L:xw vs.length lt)(nd:ks.Nodup)
  (hc:∀i j,i<vs.length→j<vs.length→∀C:Bool→Shared→Prop,C (lt i j) s→wpAny (model prog w) A (keyLt' κ (ks.getD i .none) (ks.getD j .none)) C (fun _ _=>False) s):
  wpAny (model prog w) A ((sortRuns').run (SortSt.mk' κ (ks.toArray.zip vs.toArray) #[] 7 none)) (fun r s'=>∃p:Array Nat,s'=s∧wU vs.length p∧Sd lt p vs.length∧arrOf r.2=p.map (kas_item (ks.toArray.zip vs.toArray))∧failedOf r.2=none) E s:=by
 have hz:(ks.zip vs).length=vs.length:=by rw[List.length_zip];lia
 have ea:(ks.toArray.zip vs.toArray).toList=ks.zip vs:=Zx;have Wx:(ks.zip vs).Nodup:=by
  refine List.pairwise_iff_getElem.mpr fun i j hi hj nZ e=>?_
  rw[List.getElem_zip,List.getElem_zip]at e;have:=(List.getElem_inj nd).mp (Prod.mk.inj e).1
  lia
 have run:=GK (prog:=prog) (w:=w) (A:=A) (E:=E) (s:=s) (X:=ks.zip vs) (κ:=κ) (lt:=lt) (st:=SortSt.mk' κ (ks.toArray.zip vs.toArray) #[] 7 none) (Q:=fun _ aL=>∃p:Array Nat,wU vs.length p∧Sd lt p vs.length∧arrOf aL=p.map (kas_item (ks.toArray.zip vs.toArray))∧failedOf aL=none) Wx Zq (by rw[hz];exact L) ea rfl rfl rfl (fun i j x y hx hy C h=>?_) fun p aL h1 h2 h3 h4=>⟨p,by rw[←hz];exact h1,by rw[←hz];exact h2,?_,h4⟩
 ·unfold wpS at run;refine wpAny_mono run (fun r s' ⟨h1,p,h2⟩=>⟨p,h1,h2⟩) fun _ _ e=>e
 ·obtain⟨x1,x2⟩:=x;obtain⟨y1,y2⟩:=y;have hi:=(Y' hx).1;have hj:=(Y' hy).1;rw[hz]at hi hj;obtain⟨e1,_⟩:=List.getElem?_zip_eq_some.mp hx;obtain⟨e2,_⟩:=List.getElem?_zip_eq_some.mp hy;have:=hc i j hi hj C h;simpa[List.getD_eq_getElem?_getD,e1,e2]using this
 ·apply Array.toList_inj.mp;rw[h3,Array.toList_map];apply List.map_congr_left;intro i _;unfold kas_item;rw[Array.getD_eq_getD_getElem?,←Array.getElem?_toList,ea,List.getD_eq_getElem?_getD]
end
def Kp(a:Addr)(h h':Heap):Prop:=∀b o,b≠a→h.get? b=some o→h'.get? b=some o
section
variable{prog:Program}{w:World}{A:Around}{E:Value→Shared→Prop}{s:Shared}
theorem BF{a:Addr}{vs:List Value}{n:Nat}{κ:SortKind}{lt:Nat→Nat→Bool}{P:PySem.Fin→Shared→Prop}(ho:s.heap.get? a=some (seqObj "list" vs.toArray n))(h2:2≤vs.length)(Cg:vs.length<10000)(Kv:vs.Nodup)(L:xw vs.length lt)
  (hk:∀s',Kp a s.heap s'.heap→∀Q':SortKind→Shared→Prop,Q' κ s'→wpAny (model prog w) A (keyKind' vs.toArray) Q' (fun _ _=>False) s')
  (hc:∀i j,i<vs.length→j<vs.length→∀s',Kp a s.heap s'.heap→∀C:Bool→Shared→Prop,C (lt i j) s'→wpAny (model prog w) A (keyLt' κ (vs.getD i .none) (vs.getD j .none)) C (fun _ _=>False) s')
  (h:∀p h' c,wU vs.length p→Sd lt p vs.length→Kp a s.heap h'→h'.get? a=some (seqObj "list" (List.toArray (p.toList.map fun i=>vs.getD i Value.none)) c)→P (.done (.ret .none)) {s with heap:=h'}):
  wpAny (model prog w) A (Builtin.«list.sort» ⟨[.ref a],[]⟩) P E s:=by
 have s1:=Heap.SameBut.update s.heap a (Obj.mapSeq fun _=>(#[]:Array Value));obtain⟨e1,Ih⟩:∃e1,(s.heap.update a (Obj.mapSeq fun _=>(#[]:Array Value))).get? a=some (seqObj "list" #[] e1):=⟨_,get?_update_seq ho fun _=>#[]⟩
 rw[list_sort_plain];refine wpAny_bind (listItems_at ho rfl (wpAny_bind (listUpdate_at ho rfl ?_ (by rw[List.size_toArray,sizeLine_eq];lia) (Nat.zero_le _))));refine wpAny_bind (seqEpoch_at Ih rfl (wpAny_bind (wpAny_newTuple (wpAny_bind (wpAny_newList (wpAny_holding ?_) (Nat.zero_le _))) (by show vs.length≤_;rw[sizeLine_eq];lia))));generalize hh:(((s.heap.update a (Obj.mapSeq fun _=>(#[]:Array Value))).push {cls:= .type "tuple",data:= .seq vs.toArray 0}).push {cls:= .type "list",data:= .seq #[] 0})=h3;have k3:Kp a s.heap h3:=fun b o hb e=>by
  rw[←hh];exact Zj (Zj ((s1.2 b hb).trans e))
 have Kx:h3.get? a=some (seqObj "list" #[] e1):=by
  rw[←hh];exact Zj (Zj Ih)
 show wpAny (model prog w) A _ P E {s with heap:=h3};dsimp only;have wO:¬vs.toArray.size<2:=by rw[List.size_toArray];lia
 rw[Ze wO,Ze wO];refine wpAny_bind (wpAny_mono (hk {s with heap:=h3} k3 (fun O_ s'=>O_=κ∧s'={s with heap:=h3}) ⟨rfl,rfl⟩) ?_ fun _ _ x=>x.elim);rintro _ _ ⟨rfl,rfl⟩;refine wpAny_bind (wpAny_mono (AA (lt:=lt) rfl (by lia) L Kv fun i j hi hj C hC=>hc i j hi hj {s with heap:=h3} k3 C hC) ?_ fun _ _ e=>e);rintro⟨⟨⟩,aL⟩ s' ⟨p,rfl,hp,hs,RG,hf⟩;dsimp only;rw[kat_snds rfl RG];have hsz:(List.toArray (p.toList.map fun i=>vs.getD i Value.none)).size=vs.length:=by rw[List.size_toArray,List.length_map,Array.length_toList,hp.size]
 have s2:=Heap.SameBut.update h3 a (Obj.mapSeq fun _=>List.toArray (p.toList.map fun i=>vs.getD i Value.none));obtain⟨c2,qK⟩:∃c2,(h3.update a (Obj.mapSeq fun _=>List.toArray (p.toList.map fun i=>vs.getD i Value.none))).get? a=some (seqObj "list" (List.toArray (p.toList.map fun i=>vs.getD i Value.none)) c2):=⟨_,get?_update_seq Kx fun _=>List.toArray (p.toList.map fun i=>vs.getD i Value.none)⟩
 refine wpAny_bind (seqEpoch_at (s:={s with heap:=h3}) Kx rfl (wpAny_bind (listUpdate_at (s:={s with heap:=h3}) Kx rfl ?_ (Nat.zero_le _) (Nat.le_trans (Nat.le_of_eq hsz) (by rw[sizeLine_eq];lia)))));rw[hf];simp only[bne_self_eq_false,Bool.false_eq_true,if_false];exact wpAny_pure (h p _ c2 hp hs (fun b o hb e=>(s2.2 b hb).trans (k3 b o hb e)) qK)
theorem xF{a:Addr}{vs:List Value}{n:Nat}{P:PySem.Fin→Shared→Prop}(ho:s.heap.get? a=some (seqObj "list" vs.toArray n))(h2:vs.length<2)
  (h:∀h' c,Kp a s.heap h'→h'.get? a=some (seqObj "list" vs.toArray c)→P (.done (.ret .none)) {s with heap:=h'}):
  wpAny (model prog w) A (Builtin.«list.sort» ⟨[.ref a],[]⟩) P E s:=by
 have s1:=Heap.SameBut.update s.heap a (Obj.mapSeq fun _=>(#[]:Array Value));obtain⟨e1,Ih⟩:∃e1,(s.heap.update a (Obj.mapSeq fun _=>(#[]:Array Value))).get? a=some (seqObj "list" #[] e1):=⟨_,get?_update_seq ho fun _=>#[]⟩
 rw[list_sort_plain];refine wpAny_bind (listItems_at ho rfl (wpAny_bind (listUpdate_at ho rfl ?_ (by rw[List.size_toArray,sizeLine_eq];lia) (Nat.zero_le _))));refine wpAny_bind (seqEpoch_at Ih rfl (wpAny_bind (wpAny_newTuple (wpAny_bind (wpAny_newList (wpAny_holding ?_) (Nat.zero_le _))) (by show vs.length≤_;rw[sizeLine_eq];lia))));generalize hh:(((s.heap.update a (Obj.mapSeq fun _=>(#[]:Array Value))).push {cls:= .type "tuple",data:= .seq vs.toArray 0}).push {cls:= .type "list",data:= .seq #[] 0})=h3;have k3:Kp a s.heap h3:=fun b o hb e=>by
  rw[←hh];exact Zj (Zj ((s1.2 b hb).trans e))
 have Kx:h3.get? a=some (seqObj "list" #[] e1):=by
  rw[←hh];exact Zj (Zj Ih)
 show wpAny (model prog w) A _ P E {s with heap:=h3};dsimp only;have wO:vs.toArray.size<2:=by rw[List.size_toArray];lia
 rw[Zi wO,Zi wO];refine wpAny_bind (wpAny_pure (wpAny_bind (wpAny_pure ?_)));dsimp only;have RH:(arrOf (SortSt.mk' general' (vs.toArray.zip vs.toArray) #[] 7 none)).map (·.2)=vs.toArray:=by
  show(vs.toArray.zip vs.toArray).map (·.2)=vs.toArray;apply Array.toList_inj.mp;rw[Array.toList_map,Array.toList_zip];exact List.map_snd_zip (Nat.le_refl _)
 have s2:=Heap.SameBut.update h3 a (Obj.mapSeq fun _=>vs.toArray);obtain⟨c2,qK⟩:∃c2,(h3.update a (Obj.mapSeq fun _=>vs.toArray)).get? a=some (seqObj "list" vs.toArray c2):=⟨_,get?_update_seq Kx fun _=>vs.toArray⟩
 rw[RH];refine wpAny_bind (seqEpoch_at (s:={s with heap:=h3}) Kx rfl (wpAny_bind (listUpdate_at (s:={s with heap:=h3}) Kx rfl ?_ (Nat.zero_le _) (by rw[List.size_toArray,sizeLine_eq];lia))));simp only[bne_self_eq_false,Bool.false_eq_true,if_false];exact wpAny_pure (h _ c2 (fun b o hb e=>(s2.2 b hb).trans (k3 b o hb e)) qK)
theorem sf{l:Addr}{vs:List Value}{κ:SortKind}{lt:Nat→Nat→Bool}{Q:Value→Shared→Prop}(hl:s.heap.IsList l vs.toArray)(Cg:vs.length<10000)(Kv:vs.Nodup)(L:xw vs.length lt)
  (hk:2≤vs.length→∀s',(∀b o,s.heap.get? b=some o→s'.heap.get? b=some o)→∀Q':SortKind→Shared→Prop,Q' κ s'→wpAny (model prog w) A.in1.in1 (keyKind' vs.toArray) Q' (fun _ _=>False) s')
  (hc:∀i j,i<vs.length→j<vs.length→∀s',(∀b o,s.heap.get? b=some o→s'.heap.get? b=some o)→∀C:Bool→Shared→Prop,C (lt i j) s'→wpAny (model prog w) A.in1.in1 (keyLt' κ (vs.getD i .none) (vs.getD j .none)) C (fun _ _=>False) s')
  (h:∀p h' D c,wU vs.length p→Sd lt p vs.length→(∀b o,s.heap.get? b=some o→h'.get? b=some o)→s.heap.objs.size≤D→h'.get? D=some (seqObj "list" (List.toArray (p.toList.map fun i=>vs.getD i Value.none)) c)→Q (.ref D) {s with heap:=h'}):
  wpAny (model prog w) A (call (.builtin "sorted") [.ref l]) Q E s:=by
 refine Calls.call_function_entry kind_sorted plain_sorted entry_sorted (args_sorted1 _) ?_;unfold Builtin.«sorted»;refine wpAny_bind (m:=checkCount "sorted" 1 1 _) (wpAny_pure (wpAny_bind (collect_list hl (wpAny_bind (wpAny_newList ?_ (by rw[sizeLine_eq];lia))) (by rw[sizeLine_eq];lia))));generalize hh:((s.heap.push (seqObj "list" #[] 0)).update s.heap.objs.size (Obj.mapSeq (·++vs.toArray)))=h1;have hsz:h1.objs.size=s.heap.objs.size+1:=by rw[←hh,Heap.size_update,size_push']
 have keep:∀b o,s.heap.get? b=some o→(h1.push (seqObj "list" vs.toArray 0)).get? b=some o:=fun b o q=>by
  have ie:b<s.heap.objs.size:=Heap.lt_size q;rw[Heap.get?_push_ne _ _ _ (by rw[hsz];exact Nat.ne_of_lt (Nat.lt_succ_of_lt ie)),←hh,Heap.get?_update_ne _ _ _ _ (Nat.ne_of_lt ie),Heap.get?_push_ne _ _ _ (Nat.ne_of_lt ie)];exact q
 have Cu:(h1.push (seqObj "list" vs.toArray 0)).get? h1.objs.size=some (seqObj "list" vs.toArray 0):=Heap.get?_push_size _ rfl;have Ci:∀h',Kp h1.objs.size (h1.push (seqObj "list" vs.toArray 0)) h'→∀b o,s.heap.get? b=some o→h'.get? b=some o:=fun h' k b o q=>k b o (by have:=Heap.lt_size q;rw[hsz];exact Nat.ne_of_lt (Nat.lt_succ_of_lt this)) (keep b o q)
 show wpAny _ _ _ _ _ {s with heap:=h1.push (seqObj "list" vs.toArray 0)};refine wpAny_bind (wpAny_holding (wpAny_call_entry slot_list_sort ⟨_,Cu,rfl⟩ entry_list_sort ?_ (args_list_sort _)));by_cases h2:2≤vs.length
 ·refine BF (s:={s with heap:=h1.push (seqObj "list" vs.toArray 0)}) (lt:=lt) Cu h2 Cg Kv L (fun s' k Q' q=>hk h2 s' (Ci _ k) Q' q) (fun i j hi hj s' k C q=>hc i j hi hj s' (Ci _ k) C q) fun p h' c hp hs k e=>?_
  exact⟨_,rfl,wpAny_pure ⟨_,rfl,h p h' _ c hp hs (Ci _ k) (by rw[show({s with heap:=h1}:Shared).heap.objs.size=h1.objs.size from rfl,hsz];exact Nat.le_succ _) e⟩⟩
 ·refine xF (s:={s with heap:=h1.push (seqObj "list" vs.toArray 0)}) Cu Zq fun h' c k e=>?_
  have hp:wU vs.length (List.toArray (List.range vs.length)):=by unfold wU;simp
  refine⟨_,rfl,wpAny_pure ⟨_,rfl,h _ h' _ c hp (fun i j nZ hj=>by lia) (Ci _ k) (by rw[show({s with heap:=h1}:Shared).heap.objs.size=h1.objs.size from rfl,hsz];exact Nat.le_succ _) ?_⟩⟩;rw[e]
  congr 2
  match vs,h2 with
  |[],_=>rfl
  |[x],_=>rfl
  |x::y::r,h=>simp at h
end
def h_(p q:Int×Int):Bool:=if p.1=q.1 then decide (p.2<q.2)else decide (p.1<q.1)
theorem Ed{p q r:Int×Int}(a:h_ p q=true)(b:h_ q r=true):h_ p r=true:=by
 unfold h_ at*;split at a<;>split at b<;>split<;>simp_all<;>lia
theorem ZK{p q:Int×Int}(a:h_ p q=true):h_ q p=false:=by
 unfold h_ at*;split at a<;>split<;>simp_all<;>lia
theorem AB{p q:Int×Int}(h:p≠q):h_ p q=true∨h_ q p=true:=by
 unfold h_;by_cases e:p.1=q.1
 ·have:p.2≠q.2:=fun z=>h (Prod.ext e z)
  simp[e];lia
 ·have e':¬q.1=p.1:=fun z=>e z.symm
  simp[e,e'];lia
section
variable{prog:Program}{w:World}{A:Around}{E:Value→Shared→Prop}{s:Shared}
def iz(h:Heap)(x:Addr)(p:Int×Int):Prop:=∃o t u n,h.get? x=some o∧o.cls= .type "tuple"∧o.data= .seq #[.int p.1 t, .int p.2 u] n
theorem GL{x y:Addr}{p q:Int×Int}{C:Bool→Shared→Prop}(hx:iz s.heap x p)(hy:iz s.heap y q)(h:C (h_ p q) s):wpAny (model prog w) A (keyLt' (tuples' true) (.ref x) (.ref y)) C E s:=by
 obtain⟨ox,t,u,n,h1,h2,h3⟩:=hx;obtain⟨oy,t',u',n',g1,g2,g3⟩:=hy;refine kat_lt h1 h3 g1 g3 (kat_cons ?_);have e0:SeqAt.EqAt A s (.int p.1 t) (.int q.1 t') (kU (.int p.1) (.int q.1)):=rR ⟨t,rfl⟩ ⟨t',rfl⟩ rfl rfl;have e1:SeqAt.EqAt A s (.int p.2 u) (.int q.2 u') (kU (.int p.2) (.int q.2)):=rR ⟨u,rfl⟩ ⟨u',rfl⟩ rfl rfl;refine e0 _ _ _ _ ?_;by_cases a:p.1=q.1
 ·have:kU (.int p.1) (.int q.1)=true:=by simp[kU,a]
  rw[this];refine kat_yes (kat_cons (e1 _ _ _ _ ?_));by_cases b:p.2=q.2
  ·have:kU (.int p.2) (.int q.2)=true:=by simp[kU,b]
   rw[this];refine kat_yes (kat_nil ?_);have:h_ p q=decide (#[Value.int p.1 t, .int p.2 u].size<#[Value.int q.1 t', .int q.2 u'].size):=by simp[h_,a,b]
   rw[this]at h;exact h
  ·have:kU (.int p.2) (.int q.2)=false:=by simp[kU,b]
   rw[this];refine kat_no (kat_one _ _ (lt_int ?_));have:h_ p q=decide (p.2<q.2):=by simp[h_,a]
   rw[this]at h;exact h
 ·have:kU (.int p.1) (.int q.1)=false:=by simp[kU,a]
  rw[this];refine kat_no (oneLt_int ?_);have:h_ p q=decide (p.1<q.1):=by simp[h_,a]
  rw[this]at h;exact h
theorem uV{h:Heap}:∀{its:List Value},(∀v∈its,∃x p,v= .ref x∧iz h x p)→∃fs,KatTups h its fs∧fs.length=its.length∧∀f∈fs,∃i t,f=Value.int i t
 |[],_=>⟨[], .nil,rfl,fun f hf=>by cases hf⟩
 |v::r,hv=>by
  obtain⟨x,p,rfl,o,t,u,n,h1,h2,h3⟩:=hv v (List.mem_cons_self ..);obtain⟨fs,k1,k2,k3⟩:=uV (its:=r) fun v Fe=>hv v (List.mem_cons_of_mem _ Fe)
  refine⟨.int p.1 t::fs, .cons h1 h2 h3 rfl k1,by simp[k2],fun f hf=>?_⟩;rcases List.mem_cons.mp hf with rfl|hf
  ·exact⟨_,_,rfl⟩
  ·exact k3 f hf
theorem BG{its:List Value}{Q:SortKind→Shared→Prop}(dE:0<its.length)(hv:∀v∈its,∃x p,v= .ref x∧iz s.heap x p)(h:Q (tuples' true) s):wpAny (model prog w) A (keyKind' its.toArray) Q E s:=by
 obtain⟨fs,k1,k2,k3⟩:=uV hv;refine kat_kind (T:= .type "int") k1 Zq (fun v hv=>?_) (Zv) h;obtain⟨i,t,rfl⟩:=k3 v hv;exact .now
end
theorem sg{l:List Nat}{f:Nat→V}{g:Nat→Value}(h:∀i∈l,RelV (f i) (g i)):Vals (l.map f) (l.map g):=by
 induction l with
 |nil=>exact .nil
 |cons i r ih=>exact .cons (h i (List.mem_cons_self ..)) (ih fun j hj=>h j (List.mem_cons_of_mem _ hj))
end L2
namespace QF
open PySem L2 PySem.Spec PyProof.Rows PySem.W PySem.Calls
inductive Ee(K:Frag)(vs:List V)(H:Hp)(Q:VK):Prop
 |mk (l:Addr) (xs:List V) (ps:List Pr) (_:vs=[.ref l]) (_:jC K H l xs) (_:fO H xs ps) (_:ps.Nodup) (_:ps.length<10000) (_:∀D ys qs,H D=none→fO H ys qs→qs.Perm ps→qs.Pairwise (fun p q=>h_ p q=true)→Q (.ref D) (upd H D (.lst ys))):Ee K vs H Q
theorem ZY{X:Cx}(K:Frag)(hK:X.K=K:=by rfl):gY X (.builtin "sorted") (Ee K):=by
 subst hK;intro pins s σ H vs us Q I r h;obtain⟨l,xs,ps,rfl,hq,PS,nd,Cg,q⟩:=h;obtain⟨u,rfl,rx⟩:=vals1 r;cases rx;obtain⟨its,r',pl,hz⟩:=I.list hq;have hlen:=r'.length;have pG:=PS.1;have key:∀i,i<its.length→∃t,xs[i]?=some (.ref t)∧its[i]?=some (.ref t)∧H t=some (.tup (jW (ps.getD i (0,0))))∧iz s.heap t (ps.getD i (0,0)):=fun i hi=>by
  have hp:ps[i]?=some (ps.getD i (0,0)):=by simp[show i<ps.length by lia]
  obtain⟨t,h1,h2⟩:=PS.2 i _ hp;obtain⟨v,h3,h4⟩:=r'.get h1;cases h4;refine⟨t,h1,h3,h2,?_⟩;obtain⟨Wz,r2,⟨o,e1,e2,n,e3⟩,_⟩:=I.tuple (xs:=jW (ps.getD i (0,0))) (.of h2);cases r2 with
  |cons a b=>
   cases b with
   |cons c d=>
    cases d;obtain⟨ta,rfl⟩:=a;obtain⟨tc,rfl⟩:=c;exact⟨o,ta,tc,n,e1,e2,e3⟩
 have Ci:∀{h':Heap},(∀b o,s.heap.get? b=some o→h'.get? b=some o)→∀{x p},iz s.heap x p→iz h' x p:=fun k _ _ ⟨o,t,u,n,a,b⟩=>⟨o,t,u,n,k _ _ a,b⟩
 have L:xw its.length fun i j=>h_ (ps.getD i (0,0)) (ps.getD j (0,0)):=by
  refine⟨fun i j k _ _ _ a b=>Ed a b,fun i j _ _ a=>ZK a,fun i j hi hj dE=>AB fun e=>dE ?_⟩;have e:ps[i]?=ps[j]?:=by
   rw[List.getElem?_eq_getElem Zq,List.getElem?_eq_getElem Zq];simpa[show i<ps.length by lia,show j<ps.length by lia]using e
  exact(List.getElem?_inj Zq nd).mp e
 have Kv:its.Nodup:=by
  refine List.pairwise_iff_getElem.mpr fun i j hi hj nZ e=>?_
  obtain⟨t1,_,a2,a3,_⟩:=key i hi;obtain⟨t2,_,b2,b3,_⟩:=key j hj;rw[List.getElem?_eq_getElem hi]at a2;rw[List.getElem?_eq_getElem hj,←e,a2]at b2;cases b2;rw[a3]at b3;have h1:ps[i]?=some (ps.getD i (0,0)):=by simp[show i<ps.length by lia]
  have h2:ps[j]?=some (ps.getD j (0,0)):=by simp[show j<ps.length by lia]
  have e9:ps.getD i (0,0)=ps.getD j (0,0):=by
   have:=HO.tup.inj (Zp b3);simp only[jW,List.cons.injEq,V.int.injEq,and_true]at this;exact Prod.ext this.1 this.2
  have:=(List.getElem?_inj Zq nd).mp (h1.trans (by rw[e9];exact h2.symm))
  lia
 refine sf (κ:=tuples' true) pl.isList Zq Kv L (fun h2 s' k Q' hq=>?_) (fun i j hi hj s' k C hC=>?_) fun p h' D c hp hs k hD e=>?_
 ·refine BG Zq (fun v hv=>?_) hq;obtain⟨i,hi,rfl⟩:=List.mem_iff_getElem.mp hv;obtain⟨t,_,h3,_,h5⟩:=key i hi;exact⟨t,_,by rw[List.getElem?_eq_getElem hi]at h3;exact Zp h3,Ci k h5⟩
 ·obtain⟨t,_,h3,_,h5⟩:=key i hi;obtain⟨t',_,g3,_,g5⟩:=key j hj;have e1:its.getD i .none= .ref t:=by simp[h3]
  have e2:its.getD j .none= .ref t':=by simp[g3]
  rw[e1,e2];exact GL (Ci k h5) (Ci k g5) hC
 ·have mem:∀i∈p.toList,i<its.length:=fun i hi=>by
   have:=hp.mem_iff.mp hi;simpa using this
  have rel:Vals (p.toList.map fun i=>xs.getD i .cn) (p.toList.map fun i=>its.getD i Value.none):=sg fun i hi=>by
   obtain⟨t,h1,h3,_⟩:=key i (mem i hi);have e1:xs.getD i .cn= .ref t:=by simp[h1]
   have e2:its.getD i .none= .ref t:=by simp[h3]
   rw[e1,e2];rfl
  have hsz:(p.toList.map fun i=>xs.getD i V.cn).length=its.length:=by rw[List.length_map,Array.length_toList,hp.size]
  have Z5:(p.toList.map fun i=>ps.getD i (0,0)).length=its.length:=by rw[List.length_map,Array.length_toList,hp.size]
  refine⟨.ref D,_,I.laid (t':=s.toks) k hD (show cB X.prog X.w _ h' _ (.lst _)from⟨by rw[hsz,←hlen];exact hz,_,c,rel,e⟩),rfl,q D _ (p.toList.map fun i=>ps.getD i (0,0)) (I.bH.fresh hD) ⟨by rw[hsz,Z5],fun i f hf=>?_⟩ ?_ ?_⟩
  ·rw[List.getElem?_map]at hf⊢;cases ei:p.toList[i]? with
   |none=>rw[ei]at hf;cases hf
   |some j=>
    rw[ei]at hf;have hf:ps.getD j (0,0)=f:=Zp hf;obtain⟨t,h1,h3,h4,_⟩:=key j (mem j (Zd ei));refine⟨t,?_,by rw[←hf];exact h4⟩;show some (xs.getD j .cn)=_;simp[h1]
  ·have h1:=hp.map (fun i=>ps.getD i (0,0));refine h1.trans ?_;have:(List.range its.length).map (fun i=>ps.getD i (0,0))=ps:=by
    apply List.ext_getElem?;intro i;rw[List.getElem?_map];by_cases hi:i<its.length
    ·rw[List.getElem?_range hi];simp[show i<ps.length by lia]
    ·rw[List.getElem?_eq_none (by simp;lia),List.getElem?_eq_none Zq];rfl
   rw[this]
  ·rw[List.pairwise_iff_getElem];intro i j hi hj nZ;have wQ:i<its.length:=by rw[Z5]at hi;exact hi
   have Gf:j<its.length:=by rw[Z5]at hj;exact hj
   have:=hs i j nZ Gf;have BH:=hp.size;simp only[List.getElem_map];have e1:gd p i=p.toList[i]'(by simp;lia):=by simp[gd,show i<p.size by lia]
   have e2:gd p j=p.toList[j]'(by simp;lia):=by simp[gd,show j<p.size by lia]
   rw[e1,e2]at this;exact this
end QF
namespace L2
open PySem PySem.Spec PyProof.Rows PySem.W PySem.Calls
open AutoSeq1 (wpAny_loadPart')
theorem LA{A:Around}{s:Shared}{i j:Int}{t u:Tok}:SeqAt.EqAt A s (.int i t) (.int j u) (decide (i=j)):=by
 have:=rR (A:=A) (s:=s) (y:= .int i) (x:= .int j) ⟨t,rfl⟩ ⟨u,rfl⟩ rfl rfl;simpa[kU,Bool.beq_eq_decide_eq]using this
theorem Nw{prog:Program}{w:World}{A:Around}{E:Value→Shared→Prop}{s:Shared}{i j:Int}{t u:Tok}{Q:Value→Shared→Prop}(h:Q (.bool (decide (i<j))) s):wpAny (model prog w) A (richCompare .Lt (.int i t) (.int j u)) Q E s:=lt_int h
theorem Ef(l b:Addr)(p q:Int×Int)(t u t' u':Tok)(n n2:Nat)(dd tP:Option Addr)(sl mC:Array (Option Value)):
  Meets (Builtin.«tuple.__lt__» ⟨[.ref l, .ref b],[]⟩) (fun A R s=>s.heap.get? l=some {cls:= .type "tuple",dict:=dd,data:= .seq #[.int p.1 t, .int p.2 u] n,slots:=sl}∧s.heap.get? b=some {cls:= .type "tuple",dict:=tP,data:= .seq #[.int q.1 t', .int q.2 u'] n2,slots:=mC}∧
    R (.ok (.ret (.bool (h_ p q)))) s):=
 .of_wp fun prog w A R s h=>by
  obtain⟨hp,g,d,tk,os⟩:=s;obtain⟨hl,hb,h⟩:=h;have f2:=AutoSeq1.sub_tuple_tuple
  wp_walk using wpAny_loadPart' hl,wpAny_loadPart' hb
  refine(show wpAny (model prog w) A.in1 (eqBool (.int p.1 t) (.int q.1 t')) _ _ _ from LA _ _ _ _ ?_);by_cases a:p.1=q.1
  ·rw[decide_eq_true a]
   wp_walk
   refine(show wpAny (model prog w) A.in1 (eqBool (.int p.2 u) (.int q.2 u')) _ _ _ from LA _ _ _ _ ?_);by_cases c:p.2=q.2
   ·rw[decide_eq_true c]
    wp_walk
    have e:h_ p q=false:=by simp[h_,a,c]
    rw[e]at h;exact⟨_,rfl,h⟩
   ·rw[decide_eq_false c];have e:h_ p q=decide (p.2<q.2):=by simp[h_,a]
    rw[e]at h
    wp_walk using Nw
    exact⟨_,rfl,h⟩
  ·rw[decide_eq_false a];have e:h_ p q=decide (p.1<q.1):=by simp[h_,a]
   rw[e]at h
   wp_walk using Nw
   exact⟨_,rfl,h⟩
theorem si{prog:Program}{w:World}{A:Around}{E:Value→Shared→Prop}{s:Shared}{x y:Addr}{p q:Int×Int}{Q:Value→Shared→Prop}(hu:A.units<cLine)(hx:iz s.heap x p)(hy:iz s.heap y q)(h:Q (.bool (h_ p q)) s):wpAny (model prog w) A (compareOp .Lt (.ref x) (.ref y)) Q E s:=by
 obtain⟨⟨c,dd,da,sl⟩,t,u,n,h1,h2,h3⟩:=hx;obtain⟨⟨c',HJ,Yz,L8⟩,t',u',n',g1,g2,g3⟩:=hy;simp only at h2 h3 g2 g3;subst h2 h3 g2 g3;exact richCompare_meets_room (op:= .Lt) ⟨_,h1,rfl⟩ ⟨_,g1,rfl⟩ F.slot_tuple_lt F.entry_tuple_lt (F.args_tuple_lt_2 _ _) (Ef x y p q t u t' u' n n' dd HJ sl L8) ⟨h1,g1,show Value.bool (h_ p q)≠Value.notImplemented∧Q (.bool (h_ p q)) s from⟨(fun x=>nomatch x),h⟩⟩ hu
abbrev Kw:=Int×(Int×Int)
def pS(a b:Kw):Bool:=if a.1=b.1 then h_ a.2 b.2 else decide (a.1<b.1)
theorem Eh{p q r:Kw}(a:pS p q=true)(b:pS q r=true):pS p r=true:=by
 unfold pS at*;by_cases h1:p.1=q.1<;>by_cases h2:q.1=r.1
 ·rw[Zi h1]at a;rw[Zi h2]at b;rw[Zi (h1.trans h2)];exact Ed a b
 ·rw[Ze h2]at b;rw[Ze (by rw[h1];exact h2),h1];exact b
 ·rw[Ze h1]at a;rw[Ze (by rw[←h2];exact h1),←h2];exact a
 ·rw[Ze h1]at a;rw[Ze h2]at b;have a:=of_decide_eq_true a;have b:=of_decide_eq_true b;rw[Ze Zq];exact decide_eq_true Zq
theorem Ei{p q:Kw}(a:pS p q=true):pS q p=false:=by
 unfold pS at*;by_cases h1:p.1=q.1
 ·rw[Zi h1]at a;rw[Zi h1.symm];exact ZK a
 ·rw[Ze h1]at a;rw[Ze (fun z=>h1 z.symm)];have a:=of_decide_eq_true a;exact decide_eq_false Zq
theorem AD{p q:Kw}(h:p≠q):pS p q=true∨pS q p=true:=by
 unfold pS;by_cases h1:p.1=q.1
 ·rw[Zi h1,Zi h1.symm];exact AB fun z=>h (Prod.ext h1 z)
 ·rw[Ze h1,Ze (fun z=>h1 z.symm)];rcases Int.lt_or_lt_of_ne h1 with z|z
  ·exact .inl (decide_eq_true z)
  ·exact .inr (decide_eq_true z)
section
variable{prog:Program}{w:World}{A:Around}{E:Value→Shared→Prop}{s:Shared}
def uW(h:Heap)(x:Addr)(k:Kw):Prop:=∃o t y c,h.get? x=some o∧o.cls= .type "tuple"∧o.data= .seq #[.int k.1 t, .ref y] c∧iz h y k.2
theorem pT{x y:Addr}{p q:Int×Int}(hu:A.units+1<cLine)(hx:iz s.heap x p)(hy:iz s.heap y q):SeqAt.EqAt A s (.ref x) (.ref y) (decide (p=q)):=by
 obtain⟨o,t,u,n,h1,h2,h3⟩:=hx;obtain⟨o',t',u',n',g1,g2,g3⟩:=hy;by_cases e:x=y
 ·subst e;rw[h1]at g1;cases g1;rw[h3]at g3;injection g3 with g3 _;have g3:=congrArg Array.toList g3;simp at g3;have:p=q:=Prod.ext g3.1.1 g3.2.1;rw[decide_eq_true this];exact SeqAt.EqAt.same _
 ·have:=SeqAt.EqAt.of_refs e (SeqAt.RcAt.tuples (A:=A) (s:=s) (items:=#[.int p.1 t, .int p.2 u]) (items2:=#[.int q.1 t', .int q.2 u']) (e:=fun j=>if j=0 then decide (p.1=q.1)else decide (p.2=q.2)) ⟨o,h1,h2,n,h3⟩ ⟨o',g1,g2,n',g3⟩ Zq fun j h1 h2=>by
   have:j=0∨j=1:=by simp at h1;lia
   rcases this with rfl|rfl
   ·exact LA
   ·exact LA)
  have e2:((List.range (min #[Value.int p.1 t, .int p.2 u].size #[Value.int q.1 t', .int q.2 u'].size)).all (fun j=>if j=0 then decide (p.1=q.1)else decide (p.2=q.2))&&#[Value.int p.1 t, .int p.2 u].size==#[Value.int q.1 t', .int q.2 u'].size)=decide (p=q):=by
   simp[List.range_succ];by_cases a:p.1=q.1<;>by_cases b:p.2=q.2<;>simp[Prod.ext_iff,a,b]
  rw[e2]at this;exact this
theorem Kz{x y:Addr}{p q:Kw}{C:Bool→Shared→Prop}(hu:A.units+1<cLine)(hx:uW s.heap x p)(hy:uW s.heap y q)(h:C (pS p q) s):wpAny (model prog w) A (keyLt' (tuples' true) (.ref x) (.ref y)) C E s:=by
 obtain⟨ox,t,z,n,h1,h2,h3,h4⟩:=hx;obtain⟨oy,t',z',n',g1,g2,g3,g4⟩:=hy;refine kat_lt h1 h3 g1 g3 (kat_cons (LA _ _ _ _ ?_));by_cases a:p.1=q.1
 ·rw[decide_eq_true a];refine kat_yes (kat_cons (pT hu h4 g4 _ _ _ _ ?_));have e:pS p q=h_ p.2 q.2:=Zi a;by_cases b:p.2=q.2
  ·rw[decide_eq_true b];refine kat_yes (kat_nil ?_);have:pS p q=decide (#[Value.int p.1 t, .ref z].size<#[Value.int q.1 t', .ref z'].size):=by rw[e,b];simp[h_]
   rw[this]at h;exact h
  ·rw[decide_eq_false b];rw[e]at h;exact kat_no (kat_one _ _ (si Zq h4 g4 h))
 ·rw[decide_eq_false a];have e:pS p q=decide (p.1<q.1):=Ze a;rw[e]at h;exact kat_no (oneLt_int h)
end
theorem KA{X:Cx}{cm:Bool}{k:Nat}{f:Addr}{fd:FuncData}{ps:List Str}{sp:Sp}{A':Around}{pins:List (Addr×Obj)}{σ:St}{H:Hp}{s:Shared}{Q:VK}{us:List Value}{vs:List V}{E:Value→Shared→Prop}
  (F:bf X.prog X.w X.K X.mg X.base (dD X.prog X.w) cm k f fd ps sp) (hr:cY cm k A') (hf:A'.frames=X.A.frames) (hb:Binds X.K fd ps []) (I:Inv X pins σ H s) (r:Vals vs us) (h:sp vs H Q E0):
  wpAny (model X.prog X.w) A' (call (.ref f) us) (EP X pins σ Q) E s:=by
 have hl:(us++[]).length=ps.length:=by rw[List.append_nil,←r.length];exact F.len _ _ _ _ h
 have Lu:=hb s us I.nI hl;rw[List.append_nil]at Lu;refine wpAny_call (codeAny_mono (F.run A' X.stack s H ⟨us,[]⟩ us vs Q E0 hr {I.Jq with frames:=by rw[hf];exact I.ok.frames} Lu r h) fun r s' hq=>?_);cases r with
 |error e=>obtain⟨_,_,_,_,_,_,_,_,_,_,_,_,_,h⟩:=hq;exact h.elim
 |ok fl=>
  cases fl with
  |ret u=>exact I.after hq
  |next=>exact False.elim hq
  |brk=>exact False.elim hq
  |cont=>exact False.elim hq
end L2
namespace QF
open PySem L2 PySem.Spec PyProof.Rows PySem.W PySem.Calls
def KQ(H1:Hp)(w:Kw):VK:=fun y H2=>ar H1 H2∧∃k t,y= .ref k∧H2 k=some (.tup [.int w.1, .ref t])∧H2 t=some (.tup [.int w.2.1, .int w.2.2])
def kl(ws:List Kw)(i j:Nat):Bool:=pS (ws.getD i (0,(0,0))) (ws.getD j (0,(0,0)))
def Ks(H:Hp)(ws:List Kw)(as:List Addr):Prop:=∀j k,as[j]?=some k→∃t,H k=some (.tup [.int (ws.getD j (0,(0,0))).1, .ref t])∧H t=some (.tup [.int (ws.getD j (0,(0,0))).2.1, .int (ws.getD j (0,(0,0))).2.2])
theorem Ks.key{X:Cx}{pins:List (Addr×Obj)}{σ:L2.St}{H:Hp}{s:Shared}{ws:List Kw}{as:List Addr}{j:Nat}{k:Addr}(I:Inv X pins σ H s)(h:Ks H ws as)(e:as[j]?=some k):uW s.heap k (ws.getD j (0,(0,0))):=by
 obtain⟨t,h1,h2⟩:=h j k e;obtain⟨its,r,⟨o,e1,e2,n,e3⟩,_⟩:=I.tuple (xs:=[.int (ws.getD j (0,(0,0))).1, .ref t]) (.of h1);obtain⟨its',r',⟨o',g1,g2,n',g3⟩,_⟩:=I.tuple (xs:=[.int (ws.getD j (0,(0,0))).2.1, .int (ws.getD j (0,(0,0))).2.2]) (.of h2);cases r with
 |cons a b=>cases b with
  |cons c d=>
   cases d;obtain⟨ta,rfl⟩:=a;cases c;cases r' with
   |cons a' b'=>cases b' with
    |cons c' d'=>
     cases d';obtain⟨WA,rfl⟩:=a';obtain⟨WB,rfl⟩:=c';exact⟨o,ta,t,n,e1,e2,e3,o',WA,WB,n',g1,g2,g3⟩
theorem xG{h:Heap}:∀{its:List Value},(∀v∈its,∃x p,v= .ref x∧uW h x p)→∃fs,KatTups h its fs∧fs.length=its.length∧∀f∈fs,∃i t,f=Value.int i t
 |[],_=>⟨[], .nil,rfl,fun f hf=>by cases hf⟩
 |v::r,hv=>by
  obtain⟨x,p,rfl,o,t,u,n,h1,h2,h3,_⟩:=hv v (List.mem_cons_self ..);obtain⟨fs,k1,k2,k3⟩:=xG (its:=r) fun v Fe=>hv v (List.mem_cons_of_mem _ Fe)
  refine⟨.int p.1 t::fs, .cons h1 h2 h3 rfl k1,by simp[k2],fun f hf=>?_⟩;rcases List.mem_cons.mp hf with rfl|hf
  ·exact⟨_,_,rfl⟩
  ·exact k3 f hf
theorem Ej{prog:Program}{w:World}{A:Around}{E:Value→Shared→Prop}{s:Shared}{its:List Value}{Q:SortKind→Shared→Prop}(dE:0<its.length)(hv:∀v∈its,∃x p,v= .ref x∧uW s.heap x p)(h:Q (tuples' true) s):wpAny (model prog w) A (keyKind' its.toArray) Q E s:=by
 obtain⟨fs,k1,k2,k3⟩:=xG hv;refine kat_kind (T:= .type "int") k1 Zq (fun v hv=>?_) (Zv) h;obtain⟨i,t,rfl⟩:=k3 v hv;exact .now
section
variable{X:Cx}{cm:Bool}{k:Nat}{f:Addr}{fd:FuncData}{ps:List Str}{sp:Sp}{A':Around}{pins:List (Addr×Obj)}{σ:L2.St}{H:Hp}{s:Shared}{E:Value→Shared→Prop}{a kS:Addr}{vs:List Value}{xs:List V}{ws:List Kw}{e1:Nat}{P:PySem.Fin→Shared→Prop}
theorem Ek(hu:A'.units+1<cLine)(I:Inv X pins σ H s){kA:Array Value}{e:Nat}{as:List Addr}(hk:s.heap.get? kS=some (seqObj "list" kA e))(ha:s.heap.get? a=some (seqObj "list" #[] e1))(fk:ic X pins H kS)(fa:ic X pins H a)(dE:kS≠a)
  (ek:kA.toList=as.map Value.ref) (el:as.length=vs.length) (K:Ks H ws as) (r:Vals xs vs) (hlen:ws.length=vs.length) (nd:ws.Nodup) (Cg:vs.length<10000)
  (h:∀p s',wU vs.length p→Sd (kl ws) p vs.length→Inv X pins σ (upd H a (.lst (p.toList.map fun i=>xs.getD i .cn))) s'→P (.done (.ret .none)) s'):
  wpAny (model X.prog X.w) A' (ksk_end a false vs.toArray e1 (.ref kS) kA) P E s:=by
 have WC:kA=(as.map Value.ref).toArray:=by apply Array.toList_inj.mp;simpa using ek
 subst WC;have hl:(as.map Value.ref).length=vs.length:=by rw[List.length_map];exact el
 have key:∀i,i<vs.length→∃x,(as.map Value.ref).getD i Value.none= .ref x∧uW s.heap x (ws.getD i (0,(0,0))):=fun i hi=>by
  have hx:as[i]?=some as[i]:=List.getElem?_eq_getElem Zq;exact⟨as[i],by simp[show i<as.length by lia],K.key I hx⟩
 have L:xw vs.length (kl ws):=by
  refine⟨fun i j k _ _ _ a b=>Eh a b,fun i j _ _ a=>Ei a,fun i j hi hj dE=>AD fun e=>dE ?_⟩;have e:ws[i]?=ws[j]?:=by
   rw[List.getElem?_eq_getElem Zq,List.getElem?_eq_getElem Zq];simpa[show i<ws.length by lia,show j<ws.length by lia]using e
  exact(List.getElem?_inj Zq nd).mp e
 have tail:∀(st:SortSt)(p:Array Nat),wU vs.length p→Sd (kl ws) p vs.length→(arrOf st).map (·.2)=List.toArray (p.toList.map fun i=>vs.getD i Value.none)→failedOf st=none→wpAny (model X.prog X.w) A' (ksk_tail a false e1 (.ref kS) st) P E s:=fun st p hp hs hm hf=>by
  have hsz:(List.toArray (p.toList.map fun i=>vs.getD i Value.none)).size=vs.length:=by rw[List.size_toArray,List.length_map,Array.length_toList,hp.size]
  have s1:=Heap.SameBut.update s.heap kS (Obj.mapSeq fun _=>(#[]:Array Value));have DY:(s.heap.update kS (Obj.mapSeq fun _=>(#[]:Array Value))).get? a=some (seqObj "list" #[] e1):=(s1.2 a (Ne.symm dE)).trans ha;have s2:=Heap.SameBut.update (s.heap.update kS (Obj.mapSeq fun _=>(#[]:Array Value))) a (Obj.mapSeq fun _=>List.toArray (p.toList.map fun i=>vs.getD i Value.none));obtain⟨c2,qK⟩:∃c2,((s.heap.update kS (Obj.mapSeq fun _=>(#[]:Array Value))).update a (Obj.mapSeq fun _=>List.toArray (p.toList.map fun i=>vs.getD i Value.none))).get? a=some (seqObj "list" (List.toArray (p.toList.map fun i=>vs.getD i Value.none)) c2):=⟨_,get?_update_seq DY fun _=>List.toArray (p.toList.map fun i=>vs.getD i Value.none)⟩
  unfold ksk_tail
  try dsimp only
  simp only[Bool.false_eq_true,if_false];rw[hm];refine wpAny_bind (listUpdate_at hk rfl (wpAny_bind (wpAny_letGo ?_)) (by rw[List.size_toArray,hl,sizeLine_eq];lia) (Nat.zero_le _));refine wpAny_bind (seqEpoch_at (s:={s with heap:=s.heap.update kS (Obj.mapSeq fun _=>(#[]:Array Value))}) DY rfl (wpAny_bind (listUpdate_at (s:={s with heap:=s.heap.update kS (Obj.mapSeq fun _=>(#[]:Array Value))}) DY rfl ?_ (Nat.zero_le _) (Nat.le_trans (Nat.le_of_eq hsz) (by rw[sizeLine_eq];lia)))));rw[hf];simp only[bne_self_eq_false,Bool.false_eq_true,if_false];have hr:=r.length;have mem:∀i∈p.toList,i<vs.length:=fun i hi=>by
   have:=hp.mem_iff.mp hi;simpa using this
  have rel:Vals (p.toList.map fun i=>xs.getD i .cn) (p.toList.map fun i=>vs.getD i Value.none):=sg fun i hi=>by
   have hi:=mem i hi;obtain⟨v,h1,h2⟩:=r.get (i:=i) (x:=xs[i]) (by simp[show i<xs.length by lia]);have e1:xs.getD i .cn=xs[i]:=by simp[show i<xs.length by lia]
   have e2:vs.getD i .none=v:=by simp[h1]
   rw[e1,e2];exact h2
  refine wpAny_pure (h p _ hp hs (I.Ai (t':=s.toks) (fp:=[kS,a]) (fun b hb=>?_) fa (fun b o hb e=>?_) ⟨by rw[List.length_map,Array.length_toList,hp.size,sizeLine_eq];lia,_,c2,rel,qK⟩))
  ·simp only[List.mem_cons,List.mem_singleton,List.not_mem_nil,or_false]at hb;rcases hb with rfl|rfl
   ·exact fk
   ·exact fa
  ·simp only[List.mem_cons,List.not_mem_nil,or_false,not_or]at hb;exact(s2.2 b hb.2).trans ((s1.2 b hb.1).trans e)
 unfold ksk_end
 try dsimp only
 simp only[Bool.false_eq_true,if_false];by_cases h2:2≤vs.length
 ·have wO:¬vs.toArray.size<2:=by rw[List.size_toArray];lia
  rw[Ze wO,Ze wO];refine wpAny_bind (wpAny_mono (Ej (Q:=fun O_ s'=>O_=tuples' true∧s'=s) (E:=E) (its:=as.map Value.ref) (by lia) (fun v hv=>?_) ⟨rfl,rfl⟩) ?_ fun _ _ x=>x)
  ·obtain⟨i,hi,rfl⟩:=List.mem_iff_getElem.mp hv;obtain⟨x,h3,h5⟩:=key i Zq;exact⟨x,_,by rw[←h3];simp[show i<as.length by simpa using hi],h5⟩
  rintro O_ s0 ⟨WD,WE⟩;rw[WD,WE];have Nx:(as.map Value.ref).Nodup:=by
   refine List.pairwise_iff_getElem.mpr fun i j hi hj nZ e=>?_
   have wQ:i<as.length:=by simpa using hi
   have Gf:j<as.length:=by simpa using hj
   have e:as[i]=as[j]:=by simpa using e
   obtain⟨t1,a1,a2⟩:=K i as[i] (List.getElem?_eq_getElem wQ);obtain⟨t2,b1,b2⟩:=K j as[j] (List.getElem?_eq_getElem Gf);rw[←e,a1]at b1;have h1:=HO.tup.inj (Zp b1);simp only[List.cons.injEq,V.int.injEq,V.ref.injEq,and_true]at h1;rw[←h1.2,a2]at b2;have h2:=HO.tup.inj (Zp b2);simp only[List.cons.injEq,V.int.injEq,and_true]at h2;have e9:ws.getD i (0,(0,0))=ws.getD j (0,(0,0)):=Prod.ext h1.1 (Prod.ext h2.1 h2.2);have g1:ws[i]?=some (ws.getD i (0,(0,0))):=by simp[show i<ws.length by lia]
   have g2:ws[j]?=some (ws.getD j (0,(0,0))):=by simp[show j<ws.length by lia]
   have:=(List.getElem?_inj Zq nd).mp (g1.trans (by rw[e9];exact g2.symm))
   lia
  refine wpAny_bind (wpAny_mono (AA (lt:=kl ws) hl Zq L Nx fun i j hi hj C hC=>?_) ?_ fun _ _ e=>e)
  ·obtain⟨x,h3,h5⟩:=key i hi;obtain⟨y,g3,g5⟩:=key j hj;rw[h3,g3];exact Kz hu h5 g5 hC
  rintro⟨⟨⟩,aL⟩ s' ⟨p,RJ,hp,hs,RG,hf⟩;rw[RJ];exact tail aL p hp hs (kat_snds hl RG) hf
 ·have wO:vs.toArray.size<2:=by rw[List.size_toArray];lia
  rw[Zi wO,Zi wO];refine wpAny_bind (wpAny_pure (wpAny_bind (wpAny_pure ?_)));have hp:wU vs.length (List.toArray (List.range vs.length)):=by unfold wU;simp
  refine tail _ _ hp (fun i j nZ hj=>by lia) ?_ rfl;show((as.map Value.ref).toArray.zip vs.toArray).map (·.2)=_;apply Array.toList_inj.mp;rw[Array.toList_map,Array.toList_zip];refine(List.map_snd_zip (by simp;lia)).trans ?_
  match vs,h2 with
  |[],_=>rfl
  |[x],_=>rfl
  |x::y::r,h=>simp at h
theorem BI(F:bf X.prog X.w X.K X.mg X.base (dD X.prog X.w) cm k f fd ps sp)(hr:cY cm k A')(hf:A'.frames=X.A.frames)(hb:Binds X.K fd ps [])(hu:A'.units+1<cLine)(I:Inv X pins σ H s)(hk:s.heap.get? kS=some (seqObj "list" #[] 0))(ha:s.heap.get? a=some (seqObj "list" #[] e1))
  (fk:ic X pins H kS) (fa:ic X pins H a) (dE:kS≠a) (r:Vals xs vs) (hlen:ws.length=vs.length) (nd:ws.Nodup) (Cg:vs.length<10000)
  (nJ:∀i v H1,xs[i]?=some v→ar H H1→sp [v] H1 (KQ H1 (ws.getD i (0,(0,0)))) E0)
  (h:∀p H' s',wU vs.length p→Sd (kl ws) p vs.length→ar H H'→H' a=none→Inv X pins σ (upd H' a (.lst (p.toList.map fun i=>xs.getD i .cn))) s'→P (.done (.ret .none)) s'):
  wpAny (model X.prog X.w) A' (ksk_rest a (.ref f) false vs.toArray e1 (.ref kS)) P E s:=by
 have Lz:=r.length;unfold ksk_rest;refine wpAny_bind (wpAny_rule ?_);first
  |rw[List.forIn_toArray]
  |(rw[←Array.forIn_toList];simp only[List.toList_toArray])
 refine wpAny_bind (ksk_fold (fun i s'=>∃(H':Hp)(as:List Addr)(e:Nat),Inv X pins σ H' s'∧ar H H'∧s'.heap.get? kS=some (seqObj "list" (as.map Value.ref).toArray e)∧s'.heap.get? a=some (seqObj "list" #[] e1)∧ic X pins H' kS∧ic X pins H' a∧as.length=i∧Ks H' ws as) vs 0 s
  ⟨H,[],0,I,fun _ _ z=>z,hk,ha,fk,fa,rfl,fun j k e=>by simp at e⟩ ?_ ?_)
 ·rintro j x s' hx ⟨H',as,e,I',sm,DB,GN,Pa,Ny,el,K⟩;simp only[Nat.zero_add]at el⊢;have hj:j<vs.length:=(Y' hx).1;obtain⟨u,Ud,Pb⟩:=r.get (i:=j) (x:=xs[j]) (by simp[show j<xs.length by lia]);rw[hx]at Ud;cases Ud;have Ip:=I'.pinned (fp:=[kS,a]) (fun b hb=>by
   simp only[List.mem_cons,List.not_mem_nil,or_false]at hb;rcases hb with rfl|rfl
   ·exact Pa
   ·exact Ny) (fun b hb=>by
   simp only[List.mem_cons,List.not_mem_nil,or_false]at hb;rcases hb with rfl|rfl
   ·exact⟨_,DB,fun v z=>nomatch z⟩
   ·exact⟨_,GN,fun v z=>nomatch z⟩)
  refine wpAny_bind (wpAny_attempt (wpAny_mono (KA F hr hf hb Ip (.cons Pb .nil) (nJ j xs[j] H' (by simp[show j<xs.length by lia]) sm)) (fun v vh he=>?_) fun _ _ z=>z));obtain⟨y,H2,I2,ry,RK,kk,t,rfl,k1,k2⟩:=he;cases ry;dsimp only;have pk:=I2.pin (kS,_) (List.mem_append_right _ (List.mem_append_right _ (gD Zr DB)));have pa:=I2.pin (a,_) (List.mem_append_right _ (List.mem_append_right _ (gD Zr GN)));have I3:=I2.kP;have s1:=Heap.SameBut.update vh.heap kS (Obj.mapSeq (·.push (.ref kk)));obtain⟨c2,qK⟩:∃c2,(vh.heap.update kS (Obj.mapSeq (·.push (.ref kk)))).get? kS=some (seqObj "list" ((as.map Value.ref).toArray.push (.ref kk)) c2):=⟨_,get?_update_seq pk.1 (·.push (.ref kk))⟩
  refine wpAny_bind (listUpdate_at pk.1 rfl ?_ (by simp;rw[sizeLine_eq];lia) (by simp;rw[sizeLine_eq];lia));have LB:ic X pins H2 kS:=⟨pk.2.1,Pa.2⟩
  have WG:ic X pins H2 a:=⟨pa.2.1,Ny.2⟩
  refine wpAny_pure ⟨rfl,H2,as++[kk],c2,I3.turned (t':=vh.toks) (it:=kS) (fun b o hb e=>(s1.2 b hb).trans e) LB.1 LB.2.1 LB.2.2.2.1 LB.2.2.2.2.1 LB.2.2.2.2.2,fun b o z=>RK b o (sm b o z),?_,(s1.2 a (Ne.symm dE)).trans pa.1,LB,WG,by simp[el],fun i k ei=>?_⟩
  ·show(vh.heap.update kS (Obj.mapSeq (·.push (.ref kk)))).get? kS=_;rw[qK]
   congr 2
   simp
  ·by_cases hi:i<as.length
   ·rw[List.getElem?_append_left hi]at ei;obtain⟨t',g1,g2⟩:=K i k ei;exact⟨t',RK _ _ g1,RK _ _ g2⟩
   ·rw[List.getElem?_append_right Zq]at ei;have WH:i-as.length=0:=by
     have:=(Y' ei).1;simp at this
     lia
    rw[WH]at ei;have:kk=k:=by simpa using ei
    subst this;have:i=j:=by lia
    subst this;exact⟨t,k1,k2⟩
 ·rintro s' ⟨H',as,e,I',sm,DB,GN,Pa,Ny,el,K⟩;refine wpAny_bind (listItems_at DB rfl ?_);exact Ek hu I' DB GN Pa Ny dE Zr (by lia) K r hlen nd Cg fun p s2 hp hs I2=>h p H' s2 hp hs sm Ny.1 I2
theorem BJ{n:Nat}(F:bf X.prog X.w X.K X.mg X.base (dD X.prog X.w) cm k f fd ps sp)(hr:cY cm k A')(hf:A'.frames=X.A.frames)(hb:Binds X.K fd ps [])(hu:A'.units+1<cLine)(I:Inv X pins σ H s)(ho:s.heap.get? a=some (seqObj "list" vs.toArray n))
  (fa:ic X pins H a) (r:Vals xs vs) (hlen:ws.length=vs.length) (nd:ws.Nodup) (Cg:vs.length<10000)
  (nJ:∀i v H1,xs[i]?=some v→ar H H1→sp [v] H1 (KQ H1 (ws.getD i (0,(0,0)))) E0)
  (h:∀p H' s',wU vs.length p→Sd (kl ws) p vs.length→ar H H'→H' a=none→Inv X pins σ (upd H' a (.lst (p.toList.map fun i=>xs.getD i .cn))) s'→P (.done (.ret .none)) s'):
  wpAny (model X.prog X.w) A' (ksk_tree a (.ref f) false) P E s:=by
 have s1:=Heap.SameBut.update s.heap a (Obj.mapSeq fun _=>(#[]:Array Value));obtain⟨e1,Ih⟩:∃e1,(s.heap.update a (Obj.mapSeq fun _=>(#[]:Array Value))).get? a=some (seqObj "list" #[] e1):=⟨_,get?_update_seq ho fun _=>#[]⟩
 have I1:Inv X pins σ H {s with heap:=s.heap.update a (Obj.mapSeq fun _=>(#[]:Array Value))}:=I.turned (t':=s.toks) (it:=a) (fun b o hb e=>(s1.2 b hb).trans e) fa.1 fa.2.1 fa.2.2.2.1 fa.2.2.2.2.1 fa.2.2.2.2.2;unfold ksk_tree;refine wpAny_bind (listItems_at ho rfl (wpAny_bind (listUpdate_at ho rfl ?_ (by rw[List.size_toArray,sizeLine_eq];lia) (Nat.zero_le _))));refine wpAny_bind (seqEpoch_at Ih rfl (wpAny_bind (wpAny_newTuple (wpAny_bind (wpAny_newList (wpAny_holding ?_) (Nat.zero_le _))) (by show vs.length≤_;rw[sizeLine_eq];lia))));have I2:Inv X pins σ H {s with heap:=(s.heap.update a (Obj.mapSeq fun _=>(#[]:Array Value))).push (seqObj "tuple" vs.toArray 0)}:=I1.kept (t':=s.toks) fun b o e=>Zj e
 have I3:Inv X pins σ H {s with heap:=((s.heap.update a (Obj.mapSeq fun _=>(#[]:Array Value))).push (seqObj "tuple" vs.toArray 0)).push (seqObj "list" #[] 0)}:=I2.kept (t':=s.toks) fun b o e=>Zj e
 have fk:=I2.tS (Nat.le_refl _) (I2.bH.fresh (Nat.le_refl _));have vG:=Heap.get?_push_of_some (seqObj "tuple" vs.toArray 0) Ih;exact BI F hr hf hb hu I3 (Heap.get?_push_size _ rfl) (Zj vG) fk fa (Nat.ne_of_gt (Heap.lt_size vG)) r hlen nd Cg nJ h
theorem ZW{l:Addr}{Q:VK}(F:bf X.prog X.w X.K X.mg X.base (dD X.prog X.w) cm k f fd ps sp)(hr:cY cm (k+1) X.A)(hb:Binds X.K fd ps [])(I:Inv X pins σ H s)(hq:jC X.K H l xs)(hlen:ws.length=xs.length)(nd:ws.Nodup)(Cg:xs.length<10000)
  (nJ:∀i v H1,xs[i]?=some v→ar H H1→sp [v] H1 (KQ H1 (ws.getD i (0,(0,0)))) E0)
  (h:∀p H' D,wU xs.length p→Sd (kl ws) p xs.length→ar H H'→H D=none→H' D=none→Q (.ref D) (upd H' D (.lst (p.toList.map fun i=>xs.getD i .cn)))):
  wpAny (model X.prog X.w) X.A (call (.builtin "sorted") [.ref l] [(Str.ofString "key", .ref f)]) (EP X pins σ Q) E s:=by
 obtain⟨vs,r,pl,hz⟩:=I.list hq;have Lz:=r.length;refine call_function_entry_kw kind_sorted plain_sorted entry_sorted (ksk_s1 _ _) ?_;unfold Builtin.«sorted»;refine wpAny_bind (m:=checkCount "sorted" 1 1 _) (wpAny_pure (wpAny_bind (collect_list pl.isList (wpAny_bind (wpAny_newList ?_ (by rw[sizeLine_eq];lia))) (by rw[sizeLine_eq];lia))));generalize hh:((s.heap.push (seqObj "list" #[] 0)).update s.heap.objs.size (Obj.mapSeq (·++vs.toArray)))=h1;have hsz:h1.objs.size=s.heap.objs.size+1:=by rw[←hh,Heap.size_update,size_push']
 have keep:∀b o,s.heap.get? b=some o→(h1.push (seqObj "list" vs.toArray 0)).get? b=some o:=fun b o q=>by
  have ie:b<s.heap.objs.size:=Heap.lt_size q;rw[Heap.get?_push_ne _ _ _ (by rw[hsz];exact Nat.ne_of_lt (Nat.lt_succ_of_lt ie)),←hh,Heap.get?_update_ne _ _ _ _ (Nat.ne_of_lt ie),Heap.get?_push_ne _ _ _ (Nat.ne_of_lt ie)];exact q
 have Cu:(h1.push (seqObj "list" vs.toArray 0)).get? h1.objs.size=some (seqObj "list" vs.toArray 0):=Heap.get?_push_size _ rfl;have hD:s.heap.objs.size≤h1.objs.size:=by rw[hsz];exact Nat.le_succ _
 have Ue:H h1.objs.size=none:=I.bH.fresh hD;have I1:Inv X pins σ H {s with heap:=h1.push (seqObj "list" vs.toArray 0)}:=I.kept (t':=s.toks) keep;show wpAny _ _ _ _ _ {s with heap:=h1.push (seqObj "list" vs.toArray 0)};refine wpAny_bind (wpAny_holding (wpAny_call_entry_kw slot_list_sort ⟨_,Cu,rfl⟩ entry_list_sort ?_ (ksk_l1 _ _)));show wpAny (model X.prog X.w) X.A.in1.in1 (Builtin.«list.sort» ⟨[.ref h1.objs.size],[(Str.ofString "key", .ref f)]⟩) _ _ _;rw[ksk_t1];have un:=hr.un;refine BJ F ⟨hr.hd,by have:=hr.dp;show X.A.depth+3*k+5<_;lia,by show X.A.units+1+1+16*k+200<_;lia⟩ rfl hb (by show X.A.units+1+1+1<_;lia) I1 Cu (I.tS hD Ue) r Zq nd Zq nJ fun p H' s' hp hs sm hn I'=>⟨_,rfl,wpAny_pure ⟨_,rfl, .ref h1.objs.size,_,I',rfl,?_⟩⟩
 rw[←Lz]at hp hs;exact h p H' _ hp hs sm Ue hn
end
inductive El(K:Frag)(sp:Sp)(x:V)(H:Hp)(Q:VK):Prop
 |mk (l:Addr) (xs:List V) (ws:List Kw) (_:x= .ref l) (_:jC K H l xs) (_:ws.length=xs.length) (_:ws.Nodup) (_:xs.length<10000) (_:∀i v H1,xs[i]?=some v→ar H H1→sp [v] H1 (KQ H1 (ws.getD i (0,(0,0)))) E0)
  (_:∀p H' D,wU xs.length p→Sd (kl ws) p xs.length→ar H H'→H D=none→H' D=none→Q (.ref D) (upd H' D (.lst (p.toList.map fun i=>xs.getD i .cn)))):El K sp x H Q
def KC(K:Frag)(sp:Sp)(ta:TE):TE:=fun σ H Q=>ta σ H fun x H1=>El K sp x H1 Q
theorem Em{X:Cx}(K:Frag){cm:Bool}{k:Nat}{x:Str}{ps:List Str}{sp:Sp}{e:Expr}{ta:TE}{p pos kp fp:Pos}(D:cK X.prog X.w X.K X.mg X.base cm k x ps sp)(hr:cY cm (k+1) X.A)(he:PE X e ta)(hg:Gl X "sorted")(hm:X.mg "sorted"=none)
  (WI:Gl X x:=by rfl) (tT:(x==("__debug__":Str))=false:=by decide) (hs:starEach [e] X.env=[(false,eval e X.env)]:=by rfl) (hK:X.K=K:=by rfl):
  PE X (.Call (.Name "sorted" p) [e] [⟨some "key", .Name x fp,kp⟩] pos) (KC K sp ta):=by
 subst hK;obtain⟨f,fd,ok,WJ,hk,hb⟩:=D;intro pins s σ H Q I h;refine wpAny_Call_Name_kw (jZ I hg hm (PyProof.Rows.Boot.«sorted») ?_ (Zv) (Zv));rw[hs];refine callWith_builtin_kwB (first:=[]) rfl rfl (evalArgs_kwB rfl ?_);refine Calls.spliced_cons ?_;show wpAny _ _ (eval e X.env) _ _ s;refine cz (he pins s σ H _ I h) fun v s1 ⟨y,H1,I1,r1,q1⟩=>Calls.spliced_nil ?_
 obtain⟨l,xs,ws,rfl,hq,hlen,nd,Cg,nJ,q⟩:=q1;cases r1;refine kws_cons ?_;show wpAny _ _ (eval (.Name x fp) X.env) _ _ s1;refine cz (c6 (v:= .ref f) WI WJ rfl tT pins s1 σ H1 (fun y H2=>y= .ref f∧H2=H1) I1 ⟨rfl,rfl⟩) fun u s2 ⟨y,H2,I2,r2,e1,e2⟩=>?_
 subst e1 e2;cases r2;refine kws_nil ?_;exact ZW ok hr hb I2 hq hlen nd Cg nJ q
end QF
namespace L2
open PySem PySem.Spec PyProof.Rows PySem.W PySem.Calls
def LC(hi:Int)(n:Nat):It:=⟨fun i _=>i<n,fun i H x H'=>H'=H∧x= .int (hi-i),fun i _=>n≤i⟩
theorem BK{P:Program}{w:World}{K:PySem.W.Frag}{tg:Expr}(it:Addr)(hi:Int)(n:Nat):Turn P w K tg (LC hi n) [it] it (fun i h=>IsRangeIter h it (hi+(i:Nat)*(-1)) ((n:Int)-(i:Nat)) (-1)) where
 mem:=Zx
 obj:=fun i h st b hb=>by
  have e:b=it:=by simpa using hb
  subst e;exact⟨_,st,fun v z=>by
   have z':Data.fields _=Data.cell v:=z;cases z'⟩
 keep:=fun i h h' st k=>k it (Zx) _ st
 item:=by
  intro X hP hw hK hc i pins s σ H E I hf st hg;subst hP hw hK;obtain⟨f0,f1,f2,f3,f4,f5⟩:=hf it (Zx);have W:=Walks.range (prog:=X.prog) (w:=X.w) (I.ok.hd hc) it hi (-1) n;refine W.item i s _ _ hg st fun v h' tk hv aL kk=>?_
  obtain⟨t,rfl⟩:=hv;have I1:Inv X pins σ H {s with heap:=h',toks:=tk}:=I.turned (fun b o hb e=>kk b o (by simpa using hb) e) f0 f1 f3 f4 f5;refine⟨_,rfl,w9 (s:={s with heap:=h',toks:=tk}) (n:="range_iterator") aL rfl rfl (Zv) ⟨.int (hi-i),H,I1,⟨t,?_⟩,⟨rfl,rfl⟩,aL,fun b hb=>(hf b hb).1⟩⟩
  congr 1
  lia
 done:=by
  intro X hP hw hK hc i pins s σ H E I hf st hg;subst hP hw hK;obtain⟨f0,f1,f2,f3,f4,f5⟩:=hf it (Zx);exact wpAny_pyNext_range_end (I.ok.hd hc) st (by have:n≤i:=hg;lia) fun h' eb=>⟨rfl,I.turned (t':=s.toks) (fun b o hb e=>eb b o hb e) f0 f1 f3 f4 f5⟩
 self:=fun _ _ _ _ _ st h=>wpAny_pyIter_rangeiter st h
theorem rangeSize_down(a b:Int):Builtin.Range.rangeSize a b (-1)=if a>b then a-b else 0:=by
 unfold Builtin.Range.rangeSize;rw[if_neg (Zv)];split<;>simp
theorem small_down{a b:Int}(ha:-(2^62)≤a)(GN:a<2^62)(hb:-(2^62)≤b)(Lu:b<2^62):Builtin.Range.small a b (-1)=true:=by
 unfold Builtin.Range.small;rw[rangeSize_down];simp only[Builtin.Range.rangeFitsLong,Bool.and_eq_true,Bool.or_eq_true,decide_eq_true_eq,beq_iff_eq,show ¬(-1:Int)>0 by decide,if_false];split<;>lia
section
variable{X:Cx}{tg:Expr}
theorem GO{pins:List (Addr×Obj)}{σ:L2.St}{H:Hp}{s:Shared}{R:It→Hp→Prop}{E:Value→Shared→Prop}{hi lo:Int}{t u v:Tok}{tk:Nat}(I:Inv X pins σ H s)(h1:-(2^62)≤hi)(h2:hi<2^62)(h3:-(2^62)≤lo)(h4:lo<2^62)
  (q:R (LC hi (hi-lo).toNat) H):wpAny (model X.prog X.w) X.A (pyIter (.ref s.heap.objs.size)) (Qn X pins σ tg R) E {s with heap:=s.heap.push {cls:= .type "range",data:= .fields #[.int hi t, .int lo u, .int (-1) v]},toks:=tk}:=by
 refine wpAny_pyIter_range (IsRange.new ..) (small_down h1 h2 h3 h4) ?_;have I1:Inv X pins σ H {s with heap:=s.heap.push {cls:= .type "range",data:= .fields #[.int hi t, .int lo u, .int (-1) v]},toks:=tk}:=I.kept fun b o e=>Zj e
 refine⟨(s.heap.push {cls:= .type "range",data:= .fields #[.int hi t, .int lo u, .int (-1) v]}).objs.size,[(s.heap.push {cls:= .type "range",data:= .fields #[.int hi t, .int lo u, .int (-1) v]}).objs.size],_,_,H,rfl,
  I1.kept (t':=tk) fun b o e=>Zj e,BK _ hi (hi-lo).toNat,?_,fun b hb=>?_,q⟩
 ·have e1:hi+((0:Nat):Int)*(-1)=hi:=Zx;have e2:(((hi-lo).toNat:Nat):Int)-((0:Nat):Int)=Builtin.Range.rangeSize hi lo (-1):=by rw[rangeSize_down];split<;>lia
  show IsRangeIter _ _ (hi+((0:Nat):Int)*(-1)) ((((hi-lo).toNat:Nat):Int)-((0:Nat):Int)) (-1);rw[e1,e2];exact Heap.get?_push_size _ rfl
 ·have e:b=(s.heap.push {cls:= .type "range",data:= .fields #[.int hi t, .int lo u, .int (-1) v]}).objs.size:=by simpa using hb
  subst e;exact I1.tS (Nat.le_refl _) (I1.bH.fresh (Nat.le_refl _))
def Nz(ta:TA):TI:=fun σ H R=>ta σ H fun vs H1=>∃i j:Int,vs=[.int i, .int j, .int (-1)]∧(-(2^30)≤i∧i<2^30∧-(2^30)≤j∧j<2^30)∧R (LC i (i-j).toNat) H1
theorem uX{a b c:Expr}{ta:TA}{p pos:Pos}(hg:Gl X "range")(hm:X.mg "range"=none)(ha:PA X [a,b,c] ta)(hs:starEach [a,b,c] X.env=[(false,eval a X.env),(false,eval b X.env),(false,eval c X.env)]:=by rfl)(FH:starEach [b,c] X.env=[(false,eval b X.env),(false,eval c X.env)]:=by rfl):
  PI X tg (.Call (.Name "range" p) [a,b,c] [] pos) (Nz ta):=by
 intro pins s σ H R I h;refine Call_ (jZ I hg hm boot_range (PyProof.Rows.callWith_type1 (cz (ha pos pins s σ H _ I h) fun us s1 ⟨vs,H1,I1,r1,q1⟩=>?_) (by rw[hs,FH]) (by rw[FH];rfl)));obtain⟨i,j,e,⟨q1,q2,q3,q4⟩,q⟩:=q1;subst e;cases r1 with
 |cons r rr=>
  cases rr with
  |cons r' rr=>
   cases rr with
   |cons r2 rr=>
    cases rr;obtain⟨t,rfl⟩:=r;obtain⟨t',rfl⟩:=r';obtain⟨t2,rfl⟩:=r2;exact call_range_3 (Zv) (GO I1 Zq (by lia) (by lia) (by lia) q) (Or.inl (PyProof.noPylong_small Zq))
theorem xH{hi:Int}{n:Nat}{g:TG}{tb:TS}{D:Ends}{σ:L2.St}{H:Hp}(Pv:Nat→L2.St→Hp→Prop)(h0:Pv 0 σ H)
  (hs:∀i σ H,i<n→Pv i σ H→g (.int (hi-i)) σ H fun fm H2=>tb {D with nx:=Pv (i+1),ct:=Pv (i+1),bk:=D.nx} fm H2) (hd:∀σ H,Pv n σ H→D.nx σ H):
  ∃W:Nat→Nat→L2.St→Hp→Prop,(∃m,W 0 m σ H)∧∀i m σ H,W i m σ H→
   ((LC hi n).stop i H∧D.nx σ H)∨((LC hi n).go i H∧∃N:L2.St→Hp→Prop,(∀a7 H',N a7 H'→∃m',m'<m∧W (i+1) m' a7 H')∧∀x H',(LC hi n).FF i H x H'→g x σ H' fun fm H2=>tb {D with nx:=N,ct:=N,bk:=D.nx} fm H2):=by
 refine⟨fun i m σ H=>m=n-i∧i≤n∧Pv i σ H,⟨n,Zx,Nat.zero_le _,h0⟩,?_⟩;rintro i m σ H ⟨rfl,wQ,p⟩;by_cases ie:i<n
 ·refine .inr ⟨ie,Pv (i+1),fun a7 H' p'=>⟨n-(i+1),by lia,rfl,ie,p'⟩,fun x H' y=>?_⟩;obtain⟨e,y⟩:=y;subst e y;exact hs i σ _ ie p
 ·have e:i=n:=by lia
  subst e;exact .inl ⟨Nat.le_refl _,hd σ H p⟩
end
theorem BL{d:Addr}{o:Obj}{kvs:List (List Key×V)}{ls:List Str}{js:List Nat}{g:TG}{tt:TT}{te:TE}{σ:L2.St}{H1:Hp}{D:Addr}{Q:VK}(Pv:Nat→List V→L2.St→Hp→Prop)
  (h0:Pv 0 [] (kX ls js σ) (upd H1 D (.lst []))) (hl:∀i ys σ H,i≤kvs.length→Pv i ys σ H→H d=some (.q_ o (.dT kvs)))
  (hs:∀i p ys σ H,kvs[i]?=some p→Pv i ys σ H→g p.2 σ H fun fm H3=>tt fm H3 fun b H4=>if b=true then te fm H4 fun y H5=>H5 D=some (.lst ys)∧ys.length<sizeLine∧Pv (i+1) (ys++[y]) fm (upd H5 D (.lst (ys++[y])))else Pv (i+1) ys fm H4)
  (hd:∀ys σ H,Pv kvs.length ys σ H→Q (.ref D) H):rX (Ri d o kvs) ls js g tt te σ H1 D Q:=
 nS (n:=kvs.length) Pv h0 (fun i ys σ H hi p=>⟨hl i ys σ H (Nat.le_of_lt hi) p,hi⟩) (fun ys σ H p=>⟨hl _ ys σ H (Nat.le_refl _) p,Nat.le_refl _⟩)
  (fun i ys σ H x H2 hi p y=>by
   obtain⟨rfl,q,hq,rfl⟩:=y;exact hs i q ys σ _ hq p) hd
theorem En{X:Cx}{cm:Bool}{k:Nat}{x:Str}{C:Addr}{ps:List Str}{lM:List V}{sp:Sp}{E:L2.St→XK}{p pos:Pos}(D:mD X.prog X.w X.K X.mg X.base cm k x C ps lM sp)(hr:cY cm (k+1) X.A)(hx:Passes (dD X.prog X.w) X E)(hg:Gl X x:=by rfl)(tT:(x==("__debug__":Str))=false:=by decide):
  PE X (.Call (.Name x p) [] [] pos) (ZA C sp lM E CI):=by
 obtain⟨f,fd,ds,ok,M,hm,hb,hd⟩:=D;exact CL M ok hr hg hm hb hd hx tT
end L2
namespace QF
open PySem L2
structure pU(H:Hp)(C x dx e b:Addr)(es bs:List Addr)(f:Nat→Nat→Option Int)(o p:Int)(n m:Nat):Prop where
 ob:H x=some (.ins C dx (gz o p e b))
 he:H e=some (.lst (es.map V.ref))
 te:iN H es (cZ f o p) n m
 hb:H b=some (.lst (bs.map V.ref))
 tb:iN H bs (Bq f o p) (n+1) (m+1)
theorem pU.keep{H H':Hp}{C x dx e b:Addr}{es bs:List Addr}{f:Nat→Nat→Option Int}{o p:Int}{n m:Nat}(t:pU H C x dx e b es bs f o p n m)(s:ar H H'):pU H' C x dx e b es bs f o p n m:=
 ⟨s _ _ t.ob,s _ _ t.he,t.te.same s,s _ _ t.hb,t.tb.same s⟩
theorem Eo(o p:Int)(e b:Addr):(gz o p e b).lookup ("goes_on":Str)=none:=by kernel_rfl
theorem AE(o p:Int)(e b:Addr):(gz o p e b).lookup ("crossings_before":Str)=none:=by kernel_rfl
theorem Ii(o p:Int)(e b:Addr):(gz o p e b).lookup ("is_brought_by":Str)=none:=by kernel_rfl
theorem KD(o p:Int)(e b:Addr):(gz o p e b).lookup ("pair_before":Str)=none:=by kernel_rfl
theorem NA(o p:Int)(e b:Addr):(gz o p e b).lookup ("way_to":Str)=none:=by kernel_rfl
def gA:Option Int→Bool
 |none=>false
 |some b=>decide (0≤b)
def bp(f:Nat→Nat→Option Int)(o p:Int)(i j:Nat):List Pr:=
 (if bx (Bq f o p i (j+1)) o=Bq f o p (i+1) (j+1)then[((i:Int),((j+1:Nat):Int))]else[])++(if bx (Bq f o p (i+1) j) p=Bq f o p (i+1) (j+1)then[(((i+1:Nat):Int),(j:Int))]else[])
def cD(f:Nat→Nat→Option Int)(o p:Int):Nat→Nat→Nat×Nat
 |0,_=>(0,0)
 | _+1,0=>(0,0)
 |i+1,j+1=>if cZ f o p i j=Bq f o p (i+1) (j+1)then(i,j)else if bx (Bq f o p i (j+1)) o=Bq f o p (i+1) (j+1)then cD f o p i (j+1)else cD f o p (i+1) j
termination_by i j=>(i,j)
theorem j9(f:Nat→Nat→Option Int)(o p:Int):∀i j,0<i→0<j→(cD f o p i j).1<i∧(cD f o p i j).2<j∨Bq f o p i j=none
 |0,_,h,_=>absurd h Zq
 | _+1,0,_,h=>absurd h Zq
 |i+1,j+1,_,_=>by
  cases hB:Bq f o p (i+1) (j+1)with
  |none=>exact .inr rfl
  |some v=>
   left
   unfold cD;by_cases h1:cZ f o p i j=Bq f o p (i+1) (j+1)
   ·rw[Zi h1];exact⟨Zx,Zx⟩
   ·rw[Ze h1];by_cases h2:bx (Bq f o p i (j+1)) o=Bq f o p (i+1) (j+1)
    ·rw[Zi h2];have hn:Bq f o p i (j+1)≠none:=fun z=>by rw[z,hB]at h2;simp[bx]at h2
     have hi:0<i:=by
      cases i with
      |zero=>exact absurd (iy f o p (j+1)) hn
      |succ i=>lia
     rcases j9 f o p i (j+1) hi Zq with z|z
     ·exact⟨by lia,z.2⟩
     ·exact absurd z hn
    ·rw[Ze h2];have hn:Bq f o p (i+1) j≠none:=fun z=>by
      have e:Bq f o p (i+1) (j+1)=nY [cZ f o p i j,bx (Bq f o p i (j+1)) o,bx (Bq f o p (i+1) j) p]:=by
       rw[Bq];rfl
      rw[z]at e;have:bx none p=(none:Option Int):=rfl;rw[this]at e;have key:∀a b:Option Int,nY [a,b,none]=a∨nY [a,b,none]=b:=fun a b=>by
       cases a<;>cases b<;>simp[nY]
       rename_i x y
       by_cases xD:x≤y
       ·right;lia
       ·left;lia
      rcases key (cZ f o p i j) (bx (Bq f o p i (j+1)) o)with k|k
      ·exact h1 (by rw[e,k])
      ·exact h2 (by rw[e,k])
     have hj:0<j:=by
      cases j with
      |zero=>exact absurd (by unfold Bq;rfl) hn
      |succ j=>lia
     rcases j9 f o p (i+1) j Zq hj with z|z
     ·exact⟨z.1,by lia⟩
     ·exact absurd z hn
termination_by i j=>(i,j)
def dY(f:Nat→Nat→Option Int)(o p:Int):Nat→Nat→Nat→List (Nat×Nat)
 |0,i,j=>[(i,j)]
 |k+1,i,j=>if gA (Bq f o p i j)=true then dY f o p k (cD f o p i j).1 (cD f o p i j).2++[(i,j)]else[(i,j)]
def aO(q:Nat×Nat):Pr:=((q.1:Int),(q.2:Int))
inductive pV(C CT:Addr)(vs:List V)(H:Hp)(Q:VK)(u3:XK):Prop
 |mk (x dx w t:Addr) (c:Case) (as:List Addr) (f:Nat→Nat→Option Int) (n m:Nat) (_:vs=[.ref x, .ref w, .ref t]) (_:H x=some (.ins C dx [])) (_:H dx=some (.own x)) (_:H w=some (.lst (as.map V.ref))) (_:iN H as f n m) (_:yW H CT t c) (_:n≤1000) (_:m≤1000) (_:∀H' e b,SameBut x H H'→H' x=some (.ins C dx (gz c.out c.into e b))→Tab H H' e (cZ f c.out c.into) n m→(0<n→Tab H H' b (Bq f c.out c.into) (n+1) (m+1))→Q .cn H'):pV C CT vs H Q u3
inductive vN(C:Addr)(vs:List V)(H:Hp)(Q:VK)(u3:XK):Prop
 |mk (x dx e b:Addr) (es bs:List Addr) (f:Nat→Nat→Option Int) (o p:Int) (n m:Nat) (pr:Addr) (i j:Nat) (_:vs=[.ref x, .ref pr]) (_:pU H C x dx e b es bs f o p n m) (_:H pr=some (.tup [.int i, .int j])) (_:i≤n) (_:j≤m) (_:Q (.bl (gA (Bq f o p i j))) H):vN C vs H Q u3
inductive ZC(C:Addr)(vs:List V)(H:Hp)(Q:VK)(u3:XK):Prop
 |mk (x dx e b:Addr) (es bs:List Addr) (f:Nat→Nat→Option Int) (o p:Int) (n m:Nat) (cr pr:Addr) (i j k l:Nat) (_:vs=[.ref x, .ref cr, .ref pr]) (_:pU H C x dx e b es bs f o p n m) (_:H cr=some (.tup [.int i, .int j])) (_:H pr=some (.tup [.int k, .int l])) (_:i≤n) (_:j≤m) (_:k<n) (_:l<m) (_:Q (.bl (decide (cZ f o p k l=Bq f o p i j))) H):ZC C vs H Q u3
inductive sj(C:Addr)(vs:List V)(H:Hp)(Q:VK)(u3:XK):Prop
 |mk (x dx e b:Addr) (es bs:List Addr) (f:Nat→Nat→Option Int) (o p:Int) (n m:Nat) (cr:Addr) (i j:Nat) (_:vs=[.ref x, .ref cr]) (_:pU H C x dx e b es bs f o p n m) (_:H cr=some (.tup [.int ((i+1:Nat):Int), .int ((j+1:Nat):Int)])) (_:i<n) (_:j<m) (_:∀H' r us,ar H H'→H r=none→H' r=some (.lst us)→fO H' us (bp f o p i j)→Q (.ref r) H'):sj C vs H Q u3
inductive vO(C:Addr)(vs:List V)(H:Hp)(Q:VK)(u3:XK):Prop
 |mk (x dx e b:Addr) (es bs:List Addr) (f:Nat→Nat→Option Int) (o p:Int) (n m:Nat) (pr:Addr) (i j:Nat) (_:vs=[.ref x, .ref pr]) (_:pU H C x dx e b es bs f o p n m) (_:H pr=some (.tup [.int i, .int j])) (_:i≤n) (_:j≤m) (_:Bq f o p i j≠none) (_:∀H' r,ar H H'→H' r=some (.tup (jW (aO (cD f o p i j))))→Q (.ref r) H'):vO C vs H Q u3
inductive ZE(C:Addr)(vs:List V)(H:Hp)(Q:VK)(u3:XK):Prop
 |mk (x dx e b:Addr) (es bs:List Addr) (f:Nat→Nat→Option Int) (o p:Int) (n m:Nat) (pr:Addr) (i j:Nat) (_:vs=[.ref x, .ref pr]) (_:pU H C x dx e b es bs f o p n m) (_:H pr=some (.tup [.int i, .int j])) (_:i<n) (_:j<m) (_:n≤1000) (_:∀H' r us,ar H H'→H r=none→H' r=some (.lst us)→fO H' us ((dY f o p i i j).map aO)→Q (.ref r) H'):ZE C vs H Q u3
theorem WK(a b:Option Int):nY [a,b,none]=a∨nY [a,b,none]=b:=by
 cases a<;>cases b<;>simp[nY]
 rename_i x y
 by_cases xD:x≤y
 ·right;lia
 ·left;lia
theorem xI{f:Nat→Nat→Option Int}{o p:Int}{i j:Nat}(hB:Bq f o p (i+1) (j+1)≠none)(h1:cZ f o p i j≠Bq f o p (i+1) (j+1)):
  ∃i2 j2,(bp f o p i j)[0]?=some (aO (i2+1,j2+1))∧i2≤i∧j2≤j∧i2+j2<i+j∧Bq f o p (i2+1) (j2+1)≠none∧cD f o p (i2+1) (j2+1)=cD f o p (i+1) (j+1):=by
 by_cases h2:bx (Bq f o p i (j+1)) o=Bq f o p (i+1) (j+1)
 ·have hn:Bq f o p i (j+1)≠none:=fun z=>by rw[z]at h2;exact hB h2.symm
  cases i with
  |zero=>exact absurd (iy f o p (j+1)) hn
  |succ i=>
   refine⟨i,j,?_,by lia,by lia,by lia,hn,?_⟩
   ·unfold bp;rw[Zi h2];rfl
   ·conv=>rhs;unfold cD
    rw[Ze h1,Zi h2]
 ·have hn:Bq f o p (i+1) j≠none:=fun z=>by
   have e:Bq f o p (i+1) (j+1)=nY [cZ f o p i j,bx (Bq f o p i (j+1)) o,bx (Bq f o p (i+1) j) p]:=by rw[Bq];rfl
   rw[z,show bx none p=(none:Option Int)from rfl]at e;rcases WK (cZ f o p i j) (bx (Bq f o p i (j+1)) o)with k|k
   ·exact h1 (by rw[e,k])
   ·exact h2 (by rw[e,k])
  have h3:bx (Bq f o p (i+1) j) p=Bq f o p (i+1) (j+1):=by
   have e:Bq f o p (i+1) (j+1)=nY [cZ f o p i j,bx (Bq f o p i (j+1)) o,bx (Bq f o p (i+1) j) p]:=by rw[Bq];rfl
   have key:∀a b c:Option Int,nY [a,b,c]≠a→nY [a,b,c]≠b→c=nY [a,b,c]:=fun a b c=>by
    cases a<;>cases b<;>cases c<;>simp[nY]<;>lia
   rw[e];exact key _ _ _ (fun z=>h1 (by rw[e];exact z.symm)) (fun z=>h2 (by rw[e];exact z.symm))
  cases j with
  |zero=>exact absurd (by unfold Bq;rfl) hn
  |succ j=>
   refine⟨i,j,?_,by lia,by lia,by lia,hn,?_⟩
   ·unfold bp;rw[Ze h2,Zi h3];rfl
   ·conv=>rhs;unfold cD
    rw[Ze h1,Ze h2]
theorem jL{f:Nat→Nat→Option Int}{o p:Int}{i j:Nat}(h:gA (Bq f o p i j)=true):0<i∧0<j∧Bq f o p i j≠none:=by
 have hn:Bq f o p i j≠none:=fun z=>by rw[z]at h;cases h
 refine⟨?_,?_,hn⟩
 ·cases i with
  |zero=>exact absurd (iy f o p j) hn
  |succ i=>lia
 ·cases j with
  |zero=>cases i with
   |zero=>exact absurd (iy f o p 0) hn
   |succ i=>exact absurd (by unfold Bq;rfl) hn
  |succ j=>lia
theorem gG{f:Nat→Nat→Option Int}{o p:Int}{i j:Nat}(h:¬gA (Bq f o p i j)=true):∀k,dY f o p k i j=[(i,j)]
 |0=>rfl
 |k+1=>by rw[dY,Ze h]
theorem BM(f:Nat→Nat→Option Int)(o p:Int)(i:Nat):∀k k' j,i≤k→i≤k'→dY f o p k i j=dY f o p k' i j:=by
 induction i using Nat.strongRecOn with
 |ind i ih=>
  intro k k' j h h';by_cases hg:gA (Bq f o p i j)=true
  ·obtain⟨a,b,c⟩:=jL hg;have hl:=(j9 f o p i j a b).resolve_right c;obtain⟨k,rfl⟩:∃k1,k=k1+1:=⟨k-1,by lia⟩
   obtain⟨k',rfl⟩:∃k1,k'=k1+1:=⟨k'-1,by lia⟩
   rw[dY,dY,Zi hg,Zi hg,ih _ hl.1 k k' _ (by lia) (by lia)]
  ·rw[gG hg,gG hg]
theorem uY{f:Nat→Nat→Option Int}{o p:Int}{i j:Nat}(h:gA (Bq f o p i j)=true):dY f o p i i j=dY f o p (cD f o p i j).1 (cD f o p i j).1 (cD f o p i j).2++[(i,j)]:=by
 obtain⟨a,b,c⟩:=jL h;have hl:=(j9 f o p i j a b).resolve_right c;obtain⟨i,rfl⟩:∃k1,i=k1+1:=⟨i-1,by lia⟩
 rw[dY,Zi h,BM f o p _ i _ _ (by lia) (Nat.le_refl _)]
structure Ij(K:W.Frag)(C:Addr):Prop where
 cl:vf K C
 worth:bR K C "worth"
 way:bR K C "way"
 row:bR K C "row"
 pairs:bR K C "pairs"
def mF(w:Int)(a r p:Addr):List (Str×V):=[("worth", .int w),("way", .ref a),("row", .ref r),("pairs", .ref p)]
theorem n9(w:Int)(a r p:Addr):(mF w a r p).lookup ("worth":Str)=some (V.int w):=by kernel_rfl
theorem sk(w:Int)(a r p:Addr):(mF w a r p).lookup ("way":Str)=some (V.ref a):=by kernel_rfl
theorem vP(w:Int)(a r p:Addr):(mF w a r p).lookup ("row":Str)=some (V.ref r):=by kernel_rfl
theorem jM(w:Int)(a r p:Addr):(mF w a r p).lookup ("pairs":Str)=some (V.ref p):=by kernel_rfl
theorem KG(w:Int)(a r p:Addr):bo "pairs" (.ref p) (bo "row" (.ref r) (bo "way" (.ref a) (bo "worth" (.int w) [])))=mF w a r p:=by kernel_rfl
inductive so(C:Addr)(vs:List V)(H:Hp)(Q:VK)(u3:XK):Prop
 |mk (x dx a r p:Addr) (w:Int) (_:vs=[.ref x, .int w, .ref a, .ref r, .ref p]) (_:H x=some (.ins C dx [])) (_:Q .cn (upd H x (.ins C dx (mF w a r p)))):so C vs H Q u3
inductive sq(C:Addr)(vs:List V)(H:Hp)(Q:VK)(u3:XK):Prop
 |mk (x dx a r p:Addr) (w:Int) (us:List V) (ps:List Pr) (_:vs=[.ref x]) (_:H x=some (.ins C dx (mF w a r p))) (_:H p=some (.lst us)) (_:fO H us ps) (_:ps≠[]) (_:∀H' k t,ar H H'→H' k=some (.tup [.int (-w), .ref t])→H' t=some (.tup [.int (bY ps).1, .int (bY ps).2])→Q (.ref k) H'):sq C vs H Q u3
inductive ZG(C CF:Addr)(vs:List V)(H:Hp)(Q:VK)(u3:XK):Prop
 |mk (x dx e b:Addr) (es bs:List Addr) (f:Nat→Nat→Option Int) (o p:Int) (n m:Nat) (w:Int) (pr:Addr) (us:List V) (ps:List (Nat×Nat)) (q0:Nat×Nat) (_:vs=[.ref x, .int w, .ref pr]) (_:pU H C x dx e b es bs f o p n m) (_:H pr=some (.lst us)) (_:fO H us (ps.map aO)) (_:∀q∈ps,q.1<n∧q.2<m) (_:(ps.filter fun q=>decide (cZ f o p q.1 q.2=some w))[0]?=some q0) (_:n≤1000) (_:ps.length≤5000)
  (_:∀H' y dy wy rw iP,ar H H'→H y=none→H dy=none→H wy=none→H rw=none→H' y=some (.ins CF dy (mF w wy rw pr))→H' dy=some (.own y)→H' wy=some (.lst iP)→fO H' iP ((dY f o p q0.1 q0.1 q0.2).map aO)→H' rw=some (.lst ((dY f o p q0.1 q0.1 q0.2).map fun q=>bJ (cZ f o p q.1 q.2)))→Q (.ref y) H'):ZG C CF vs H Q u3
theorem AF{f:Nat→Nat→Option Int}{o p:Int}{n m:Nat}:∀k i j,i<n→j<m→∀q∈dY f o p k i j,q.1<n∧q.2<m
 |0,i,j,hi,hj,q,hq=>by
  have:q=(i,j):=by simpa[dY]using hq
  subst this;exact⟨hi,hj⟩
 |k+1,i,j,hi,hj,q,hq=>by
  by_cases h:gA (Bq f o p i j)=true
  ·rw[dY,Zi h]at hq;obtain⟨a,b,c⟩:=jL h;have hl:=(j9 f o p i j a b).resolve_right c;rcases List.mem_append.mp hq with z|z
   ·exact AF k _ _ (by lia) (by lia) q z
   ·have:q=(i,j):=by simpa using z
    subst this;exact⟨hi,hj⟩
  ·rw[gG h]at hq;have:q=(i,j):=by simpa using hq
   subst this;exact⟨hi,hj⟩
theorem xJ{f:Nat→Nat→Option Int}{o p:Int}:∀k i j,(dY f o p k i j).length≤k+1
 |0,i,j=>by simp[dY]
 |k+1,i,j=>by
  by_cases h:gA (Bq f o p i j)=true
  ·rw[dY,Zi h,List.length_append];have:=xJ (f:=f) (o:=o) (p:=p) k (cD f o p i j).1 (cD f o p i j).2;simp
   lia
  ·rw[gG h];simp
end QF
namespace L2
open PySem PySem.Spec PyProof.Rows PySem.W PySem.Calls
section
variable{X:Cx}
inductive Ep(K:Frag)(x:V)(y:V)(H:Hp)(Q:VK):Prop
 |mk (p q:Addr) (xs ys:List V) (_:x= .ref p) (_:y= .ref q) (_:Cw K H p xs) (_:Cw K H q ys) (_:xs.all gy=true) (_:ys.all gy=true) (_:Q (.bl (!tV xs ys)) H):Ep K x y H Q
theorem BN(K:Frag)(hu:X.A.units<cLine)(hK:X.K=K:=by rfl):rg X (compareOp .NotEq) (Ep K):=by
 subst hK;intro pins s σ H x y v u Q I rx ry h;obtain⟨p,q,xs,ys,rfl,rfl,hp,hq,f1,f2,k⟩:=h;cases rx;cases ry;obtain⟨its,r,pl,hz⟩:=I.tuple hp;obtain⟨eG,r2,JV,TL⟩:=I.tuple hq;have he:=xt (A:=X.A.in1) (s:=s) r r2 f1 f2;obtain⟨⟨cls,dd,data,sl⟩,ho,hc,n,hd⟩:=id pl;obtain⟨⟨Gu,tP,data2,mC⟩,vG,qK,n2,hd2⟩:=id JV;simp only at hc hd qK hd2;subst hc hd qK hd2;refine richCompare_meets_room (op:= .NotEq) ⟨_,ho,rfl⟩ ⟨_,vG,rfl⟩ F.slot_tuple_ne F.entry_tuple_ne (F.args_tuple_ne_2 _ _) (SeqAt.tuple_neAt p q its.toArray eG.toArray n n2 dd tP sl mC _) ⟨ho,vG,he,?_⟩ hu;have e:(!((List.range (min its.toArray.size eG.toArray.size)).all (fun j=>kU (xs.getD j .cn) (ys.getD j .cn))&&its.toArray.size==eG.toArray.size))=!tV xs ys:=by
  rw[←mU,r.length,r2.length];simp
 rw[e];exact⟨(fun x=>nomatch x), .bl (!tV xs ys),H,I,rfl,k⟩
end
end L2
namespace QF
open PySem L2
theorem dj{p q:Pr}(h:a8 p=a8 q):p=q:=by
 simp only[a8,List.cons.injEq,Sum.inl.injEq,and_true]at h;exact Prod.ext h.1 h.2
theorem len_sub{α:Type}[DecidableEq α]:∀(l m:List α),l.Nodup→(∀x∈l,x∈m)→l.length≤m.length
 |[],m,_,_=>Zx
 |x::r,m,hn,h=>by
  have A4:=List.nodup_cons.mp hn;have hx:=h x (Zx);have:=len_sub r (m.erase x) A4.2 fun y hy=>(List.mem_erase_of_ne (fun e:y=x=>A4.1 (by rw[←e];exact hy))).mpr (h y (by simp[hy]))
  rw[List.length_erase_of_mem hx]at this;have:=List.length_pos_of_mem hx;simp
  lia
def Ik(E:Pr→Pr→Prop)(p:Pr):Pr→Pr→Prop:=fun a b=>E a b∨(a=p∧b=p)
def pW(E:Pr→Pr→Prop)(p q:Pr):Pr→Pr→Prop:=fun a b=>E a b∨((E a p∨E a q)∧(E b p∨E b q))
theorem BO{E:Pr→Pr→Prop}{p q a b:Pr}:pW E p q a b↔pW E q p a b:=by
 unfold pW;rw[or_comm (a:=E a p),or_comm (a:=E b p)]
structure n_(S:Addr→Prop)(H:Hp)(S':Addr→Prop)(H':Hp):Prop where
 grow:∀a,S' a→S a∨H a=none
 keep:∀a o,¬S a→H a=some o→H' a=some o
theorem n_.trans{S S' Pc:Addr→Prop}{H H' LD:Hp}(a:n_ S H S' H')(b:n_ S' H' Pc LD):n_ S H Pc LD:=by
 refine⟨fun x hx=>?_,fun x o hs hx=>b.keep x o (fun z=>?_) (a.keep x o hs hx)⟩
 ·rcases b.grow x hx with h|h
  ·exact a.grow x h
  ·by_cases hs:S x
   ·exact .inl hs
   ·right
    cases e:H x with
    |none=>rfl
    |some o=>rw[a.keep x o hs e]at h;cases h
 ·rcases a.grow x z with h|h
  ·exact hs h
  ·rw[hx]at h;cases h
theorem n_.same{S:Addr→Prop}{H H':Hp}(s:ar H H'):n_ S H S H':=⟨fun _ h=> .inl h,fun a o _ h=>s a o h⟩
theorem n_.put{S:Addr→Prop}{H:Hp}{a:Addr}{o:HO}(h:S a):n_ S H S (upd H a o):=⟨fun _ h=> .inl h,fun b u hb e=>by rw[ai (fun z:b=a=>hb (by rw[z];exact h))];exact e⟩
structure NB(K:W.Frag)(C:Addr):Prop where
 cl:vf K C
 oa:bR K C "leads"
 members:bR K C "members"
def qA(dl dm:Addr):List (Str×V):=[("leads", .ref dl),("members", .ref dm)]
theorem ja(a b:Addr):(qA a b).lookup ("leads":Str)=some (V.ref a):=by kernel_rfl
theorem iG(a b:Addr):(qA a b).lookup ("members":Str)=some (V.ref b):=by kernel_rfl
theorem NC(a b:Addr):bo "members" (.ref b) (bo "leads" (.ref a) [])=qA a b:=by kernel_rfl
theorem ND(a b:Addr):(qA a b).lookup ("has":Str)=none:=by kernel_rfl
theorem Es(a b:Addr):(qA a b).lookup ("take_in":Str)=none:=by kernel_rfl
theorem AG(a b:Addr):(qA a b).lookup ("unite":Str)=none:=by kernel_rfl
theorem KH(a b:Addr):(qA a b).lookup ("told":Str)=none:=by kernel_rfl
def KI(H:Hp)(v:Option V):Option Pr→Prop
 |none=>v=none
 |some l=>∃t,v=some (.ref t)∧H t=some (.tup (jW l))
def RL(H:Hp)(S:Addr→Prop)(v:Option V):Option (List Pr)→Prop
 |none=>v=none
 |some ms=>∃a us,v=some (.ref a)∧H a=some (.lst us)∧fO H us ms∧S a
theorem KI.cw{H H':Hp}{v:Option V}{o:Option Pr}(h:KI H v o)(t:dR H H'):KI H' v o:=by
 cases o with
 |none=>exact h
 |some l=>obtain⟨a,h1,h2⟩:=h;exact⟨a,h1,t _ _ h2⟩
structure Cj(H:Hp)(S:Addr→Prop)(dl dm:Addr)(kl km:List (List Key×V))(ld:Pr→Option Pr)(mm:Pr→Option (List Pr)):Prop where
 hl:H dl=some (.dT kl)
 hm:H dm=some (.dT km)
 sl:S dl
 sm:S dm
 ne:dl≠dm
 lv:∀p,KI H (bu kl (a8 p)) (ld p)
 mv:∀p,RL H S (bu km (a8 p)) (mm p)
 inj:∀p q a,bu km (a8 p)=some (.ref a)→bu km (a8 q)=some (.ref a)→p=q
 key:∀kv∈km,∃p,kv.1=a8 p
 AH:(km.map (·.1)).Nodup
 ms:∀l ms,mm l=some ms→ms.Nodup∧∀p,p∈ms↔ld p=some l
 ml:∀p l,ld p=some l→∃ms,mm l=some ms
 self:∀l ms,mm l=some ms→ld l=some l
theorem Cj.keep{H H':Hp}{S:Addr→Prop}{dl dm:Addr}{kl km:List (List Key×V)}{ld:Pr→Option Pr}{mm:Pr→Option (List Pr)}(d:Cj H S dl dm kl km ld mm)(h:∀a o,S a→H a=some o→H' a=some o)(t:dR H H'):Cj H' S dl dm kl km ld mm:=by
 refine⟨h _ _ d.sl d.hl,h _ _ d.sm d.hm,d.sl,d.sm,d.ne,fun p=>(d.lv p).cw t,fun p=>?_,d.inj,d.key,d.AH,d.ms,d.ml,d.self⟩;have:=d.mv p;cases e:mm p with
 |none=>rw[e]at this;exact this
 |some ms=>
  rw[e]at this;obtain⟨a,us,h1,h2,h3,h4⟩:=this;exact⟨a,us,h1,h _ _ h4 h2,h3.cw t,h4⟩
theorem Cj.Bk{H:Hp}{S:Addr→Prop}{dl dm:Addr}{kl km:List (List Key×V)}{ld:Pr→Option Pr}{mm:Pr→Option (List Pr)}(d:Cj H S dl dm kl km ld mm){ms:List Pr}(hn:ms.Nodup)(h:∀p∈ms,∃l,ld p=some l):ms.length≤kl.length:=by
 have:=len_sub (ms.map a8) (kl.map (·.1)) (List.Pairwise.map _ (fun a b Et z=>Et (dj z)) hn) fun k hk=>by
  obtain⟨p,hp,rfl⟩:=List.mem_map.mp hk;obtain⟨l,hl⟩:=h p hp;have:=d.lv p;rw[hl]at this;obtain⟨t,h1,_⟩:=this;exact ZS h1
 simpa using this
theorem Cj.take{H H':Hp}{S:Addr→Prop}{dl dm a t:Addr}{kl km:List (List Key×V)}{ld:Pr→Option Pr}{mm:Pr→Option (List Pr)}{p:Pr}(d:Cj H S dl dm kl km ld mm)(hn:ld p=none)(ht:H t=some (.tup (jW p)))(ha:H a=none)
  (h1:H' dl=some (.dT (putK kl (a8 p) (.ref t)))) (h2:H' dm=some (.dT (putK km (a8 p) (.ref a)))) (h3:H' a=some (.lst [.ref t])) (hk:∀b o,b≠dl→b≠dm→H b=some o→H' b=some o):
  Cj H' (fun x=>S x∨x=a) dl dm (putK kl (a8 p) (.ref t)) (putK km (a8 p) (.ref a)) (fun q=>if q=p then some p else ld q) (fun q=>if q=p then some [p]else mm q):=by
 have T:dR H H':=fun b v hb=>hk b _ (fun z=>by rw[z,d.hl]at hb;cases hb) (fun z=>by rw[z,d.hm]at hb;cases hb) hb
 have Ug:mm p=none:=by
  cases e:mm p with
  |none=>rfl
  |some ms=>have:=d.self p ms e;rw[hn]at this;cases this
 have Eu:bu km (a8 p)=none:=by have:=d.mv p;rw[Ug]at this;exact this
 have NG:∀q b,bu km (a8 q)=some (.ref b)→b≠a:=fun q b hq z=>by
  have:=d.mv q;cases e:mm q with
  |none=>rw[e]at this;have:bu km (a8 q)=none:=this;rw[this]at hq;cases hq
  |some ms=>
   rw[e]at this;obtain⟨a',us,e1,e2,_⟩:=this;rw[hq]at e1;cases e1;rw[z,ha]at e2;cases e2
 refine⟨h1,h2, .inl d.sl, .inl d.sm,d.ne,fun q=>?_,fun q=>?_,fun q r b hq hr=>?_,fun kv Pd=>?_,?_,fun l ms hl=>?_,fun q l hq=>?_,fun l ms hl=>?_⟩
 ·rw[jE];by_cases e:q=p
  ·rw[Zi (by rw[e]),Zi e];exact⟨t,rfl,T _ _ ht⟩
  ·rw[Ze (fun z=>e (dj z)),Ze e];exact(d.lv q).cw T
 ·show RL _ _ _ (if q=p then some [p]else mm q);rw[jE];by_cases e:q=p
  ·rw[Zi (by rw[e]),Zi e];exact⟨a,_,rfl,h3,fO.one (T _ _ ht), .inr rfl⟩
  ·rw[Ze (fun z=>e (dj z)),Ze e];have:=d.mv q;cases e2:mm q with
   |none=>rw[e2]at this;exact this
   |some ms=>
    rw[e2]at this;obtain⟨b,us,z1,z2,z3,z4⟩:=this;exact⟨b,us,z1,hk b _ (fun z=>by rw[z,d.hl]at z2;cases z2) (fun z=>by rw[z,d.hm]at z2;cases z2) z2,z3.cw T, .inl z4⟩
 ·rw[jE]at hq hr;by_cases e:q=p
  ·by_cases e2:r=p
   ·rw[e,e2]
   ·rw[Zi (by rw[e])]at hq;rw[Ze (fun z=>e2 (dj z))]at hr;cases hq;exact absurd rfl (NG r _ hr)
  ·rw[Ze (fun z=>e (dj z))]at hq;by_cases e2:r=p
   ·rw[Zi (by rw[e2])]at hr;cases hr;exact absurd rfl (NG q _ hq)
   ·rw[Ze (fun z=>e2 (dj z))]at hr;exact d.inj q r b hq hr
 ·rw[rM _ Eu]at Pd;rcases List.mem_append.mp Pd with z|z
  ·exact d.key kv z
  ·exact⟨p,by rw[List.mem_singleton.mp z]⟩
 ·rw[rM _ Eu,List.map_append];refine List.nodup_append.mpr ⟨d.AH,Zx,fun x hx y hy e=>?_⟩;have hy:y=a8 p:=by simpa using hy
  rw[e,hy]at hx;exact xo Eu hx
 ·have hl:(if l=p then some [p]else mm l)=some ms:=hl;by_cases e:l=p
  ·rw[Zi e]at hl;cases hl;refine⟨Zx,fun q=>?_⟩;rw[List.mem_singleton];show q=p↔(if q=p then some p else ld q)=some l;by_cases e2:q=p
   ·rw[Zi e2,e];simp[e2]
   ·rw[Ze e2];refine⟨fun z=>absurd z e2,fun z=>?_⟩;obtain⟨ms,Ck⟩:=d.ml q l z;rw[e,Ug]at Ck;cases Ck
  ·rw[Ze e]at hl;obtain⟨z1,z2⟩:=d.ms l ms hl;refine⟨z1,fun q=>?_⟩;rw[z2];show ld q=some l↔(if q=p then some p else ld q)=some l;by_cases e2:q=p
   ·rw[Zi e2,e2,hn];refine⟨fun z=>(by cases z),fun z=>absurd (Zp z).symm e⟩
   ·rw[Ze e2]
 ·have hq:(if q=p then some p else ld q)=some l:=hq;show ∃ms,(if l=p then some [p]else mm l)=some ms;by_cases e:l=p
  ·exact⟨[p],Zi e⟩
  ·rw[Ze e];by_cases e2:q=p
   ·rw[Zi e2]at hq;exact absurd (Zp hq).symm e
   ·rw[Ze e2]at hq;exact d.ml q l hq
 ·have hl:(if l=p then some [p]else mm l)=some ms:=hl;show(if l=p then some p else ld l)=some l;by_cases e:l=p
  ·rw[Zi e,e]
  ·rw[Ze e]at hl⊢;exact d.self l ms hl
theorem AI{κ:Type}[DecidableEq κ]{k:κ}{v:V}:∀{kvs:List (κ×V)}{i:Nat},(kvs.map (·.1)).Nodup→kvs[i]?=some (k,v)→bu kvs k=some v
 |[],i,_,h=>by simp at h
 |p::r,0,_,h=>by
  have h:p=(k,v):=by simpa using h
  subst h;exact cy rfl
 |p::r,i+1,hn,h=>by
  have A4:=List.nodup_cons.mp (show(p.1::r.map (·.1)).Nodup from hn);have h:r[i]?=some (k,v):=by simpa using h
  rw[cf (fun e=>A4.1 (by rw[e];exact List.mem_map.mpr ⟨_,Zd h,rfl⟩))];exact AI A4.2 h
theorem xK{κ:Type}[DecidableEq κ]{k:κ}{v:V}:∀{kvs:List (κ×V)},bu kvs k=some v→∃i:Nat,kvs[i]?=some (k,v)
 |[],h=>by cases h
 |p::r,h=>by
  by_cases e:p.1=k
  ·rw[cy e]at h;exact⟨0,by simp;exact Prod.ext e (Zp h)⟩
  ·rw[cf e]at h;obtain⟨i,hi⟩:=xK h;exact⟨i+1,by simpa using hi⟩
theorem lR{κ:Type}[DecidableEq κ](k j:κ):∀kvs:List (κ×V),bu (iJ kvs k) j=if j=k then none else bu kvs j
 |[]=>by simp[iJ,bu]
 |p::r=>by
  have ih:=lR k j r;unfold iJ at ih⊢;rw[List.filter_cons];by_cases e:p.1=k
  ·rw[Ze (by simpa using e),ih];by_cases e2:j=k
   ·rw[Zi e2,Zi e2]
   ·rw[Ze e2,Ze e2,cf (fun z=>e2 (z.symm.trans e))]
  ·rw[Zi (by simpa using e)];by_cases e2:p.1=j
   ·rw[cy e2,Ze (fun z=>e (e2.trans z)),cy e2]
   ·rw[cf e2,ih,cf e2]
theorem Cj.NH{H H':Hp}{S:Addr→Prop}{dl dm al tl:Addr}{kl tW km:List (List Key×V)}{ld:Pr→Option Pr}{mm:Pr→Option (List Pr)}{l g:Pr}{m1 m2:List Pr}{kL iP:List V}(d:Cj H S dl dm kl km ld mm)(AJ:l≠g)(h1:mm l=some m1)(h2:mm g=some m2)(AK:bu km (a8 l)=some (.ref al))(P1:fO H kL m1)(P2:fO H iP m2)(QA:H al=some (.lst kL))(xM:H tl=some (.tup (jW l)))
  (Uh:∀r,bu tW (a8 r)=if r∈m2 then some (.ref tl)else bu kl (a8 r)) (e1:H' dl=some (.dT tW)) (e2:H' dm=some (.dT (iJ km (a8 g)))) (e3:H' al=some (.lst (kL++iP))) (hk:∀b o,b≠dl→b≠dm→b≠al→H b=some o→H' b=some o):
  Cj H' S dl dm tW (iJ km (a8 g)) (fun r=>if r∈m2 then some l else ld r) (fun r=>if r=g then none else if r=l then some (m1++m2)else mm r):=by
 have T:dR H H':=fun b v hb=>hk b _ (fun z=>by rw[z,d.hl]at hb;cases hb) (fun z=>by rw[z,d.hm]at hb;cases hb) (fun z=>by rw[z,QA]at hb;cases hb) hb
 obtain⟨n1,q1⟩:=d.ms l m1 h1;obtain⟨n2,q2⟩:=d.ms g m2 h2;refine⟨e1,e2,d.sl,d.sm,d.ne,fun r=>?_,fun r=>?_,fun p q a hp hq=>?_,fun kv Pd=>d.key kv (List.mem_filter.mp Pd).1,d.AH.sublist (List.filter_sublist.map _),fun x ms hx=>?_,fun p x hp=>?_,fun x ms hx=>?_⟩
 ·show KI H' _ (if r∈m2 then some l else ld r);rw[Uh];by_cases e:r∈m2
  ·rw[Zi e,Zi e];exact⟨tl,rfl,T _ _ xM⟩
  ·rw[Ze e,Ze e];exact(d.lv r).cw T
 ·show RL H' S _ (if r=g then none else if r=l then some (m1++m2)else mm r);rw[lR];by_cases e:r=g
  ·rw[Zi (by rw[e]),Zi e];rfl
  ·rw[Ze (fun z=>e (dj z)),Ze e];by_cases e4:r=l
   ·rw[Zi e4,e4,AK];have:=d.mv l;rw[h1]at this;obtain⟨a,us,z1,_,_,z4⟩:=this;rw[AK]at z1;cases z1;exact⟨al,_,rfl,e3,(P1.append P2).cw T,z4⟩
   ·rw[Ze e4];have:=d.mv r;cases e5:mm r with
    |none=>rw[e5]at this;exact this
    |some ms=>
     rw[e5]at this;obtain⟨a,us,z1,z2,z3,z4⟩:=this;exact⟨a,us,z1,hk a _ (fun z=>by rw[z,d.hl]at z2;cases z2) (fun z=>by rw[z,d.hm]at z2;cases z2) (fun z=>e4 (d.inj r l al (by rw[z1,z]) AK)) z2,z3.cw T,z4⟩
 ·rw[lR]at hp hq;by_cases e:p=g
  ·rw[Zi (by rw[e])]at hp;cases hp
  ·by_cases e4:q=g
   ·rw[Zi (by rw[e4])]at hq;cases hq
   ·rw[Ze (fun z=>e (dj z))]at hp;rw[Ze (fun z=>e4 (dj z))]at hq;exact d.inj p q a hp hq
 ·have hx:(if x=g then none else if x=l then some (m1++m2)else mm x)=some ms:=hx;by_cases e:x=g
  ·rw[Zi e]at hx;cases hx
  ·rw[Ze e]at hx;by_cases e4:x=l
   ·rw[Zi e4]at hx;cases hx;refine⟨List.nodup_append.mpr ⟨n1,n2,fun a ha b hb z=>?_⟩,fun p=>?_⟩
    ·have ha:=(q1 a).mp ha;have hb:=(q2 b).mp hb;rw[z,hb]at ha;exact AJ (Zp ha).symm
    ·rw[List.mem_append];show p∈m1∨p∈m2↔(if p∈m2 then some l else ld p)=some x;rw[e4];by_cases e5:p∈m2
     ·rw[Zi e5];simp[e5]
     ·rw[Ze e5,←q1];simp[e5]
   ·rw[Ze e4]at hx;obtain⟨z1,z2⟩:=d.ms x ms hx;refine⟨z1,fun p=>?_⟩;rw[z2];show ld p=some x↔(if p∈m2 then some l else ld p)=some x;by_cases e5:p∈m2
    ·rw[Zi e5,(q2 p).mp e5];exact⟨fun z=>absurd (Zp z).symm e,fun z=>absurd (Zp z).symm e4⟩
    ·rw[Ze e5]
 ·have hp:(if p∈m2 then some l else ld p)=some x:=hp;show ∃ms,(if x=g then none else if x=l then some (m1++m2)else mm x)=some ms;by_cases e5:p∈m2
  ·rw[Zi e5]at hp;cases hp;exact⟨m1++m2,by rw[Ze AJ,if_pos rfl]⟩
  ·rw[Ze e5]at hp;have hg:x≠g:=fun z=>e5 ((q2 p).mpr (by rw[hp,z]))
   by_cases e4:x=l
   ·exact⟨m1++m2,by rw[Ze hg,Zi e4]⟩
   ·obtain⟨ms,Ck⟩:=d.ml p x hp;exact⟨ms,by rw[Ze hg,Ze e4];exact Ck⟩
 ·have hx:(if x=g then none else if x=l then some (m1++m2)else mm x)=some ms:=hx;show(if x∈m2 then some l else ld x)=some x;by_cases e:x=g
  ·rw[Zi e]at hx;cases hx
  ·rw[Ze e]at hx;have Ui:ld x=some x:=by
    by_cases e4:x=l
    ·rw[e4];exact d.self l m1 h1
    ·rw[Ze e4]at hx;exact d.self x ms hx
   have:x∉m2:=fun z=>by
    have:=(q2 x).mp z;rw[Ui]at this;exact e (Zp this)
   rw[Ze this,Ui]
theorem KJ{ld:Pr→Option Pr}{l g p q:Pr}{m2:List Pr}(AJ:l≠g)(hp:ld p=some l)(hq:ld q=some g)(q2:∀r,r∈m2↔ld r=some g){E:Pr→Pr→Prop}(hE:∀a b,E a b↔∃x,ld a=some x∧ld b=some x)(a b:Pr):
  pW E p q a b↔∃x,(if a∈m2 then some l else ld a)=some x∧(if b∈m2 then some l else ld b)=some x:=by
 have A:∀c,(E c p∨E c q)↔(if c∈m2 then some l else ld c)=some l:=fun c=>by
  rw[hE,hE,hp,hq];by_cases e:c∈m2
  ·rw[Zi e,(q2 c).mp e];simp
  ·rw[Ze e];have:ld c≠some g:=fun z=>e ((q2 c).mpr z)
   constructor
   ·rintro(⟨x,h1,h2⟩|⟨x,h1,h2⟩)
    ·cases h2;exact h1
    ·cases h2;exact absurd h1 this
   ·exact fun z=> .inl ⟨l,z,rfl⟩
 unfold pW;rw[A,A,hE];constructor
 ·rintro(⟨x,h1,h2⟩|⟨h1,h2⟩)
  ·by_cases e:x=g
   ·subst e;exact⟨l,by rw[Zi ((q2 a).mpr h1)],by rw[Zi ((q2 b).mpr h2)]⟩
   ·exact⟨x,by rw[Ze (fun z=>e (by have:=(q2 a).mp z;rw[h1]at this;exact Zp this))];exact h1,by rw[Ze (fun z=>e (by have:=(q2 b).mp z;rw[h2]at this;exact Zp this))];exact h2⟩
  ·exact⟨l,h1,h2⟩
 ·rintro⟨x,h1,h2⟩;by_cases e:x=l
  ·subst e;exact .inr ⟨h1,h2⟩
  ·left
   refine⟨x,?_,?_⟩
   ·by_cases e2:a∈m2
    ·rw[Zi e2]at h1;exact absurd (Zp h1).symm e
    ·rw[Ze e2]at h1;exact h1
   ·by_cases e2:b∈m2
    ·rw[Zi e2]at h2;exact absurd (Zp h2).symm e
    ·rw[Ze e2]at h2;exact h2
def jv(H:Hp)(C g:Addr)(S:Addr→Prop)(E:Pr→Pr→Prop)(B:Nat):Prop:=
 ∃dg dl dm kl km ld mm,H g=some (.ins C dg (qA dl dm))∧¬S g∧Cj H S dl dm kl km ld mm∧(∀a b,E a b↔∃l,ld a=some l∧ld b=some l)∧kl.length≤B∧km.length≤B
theorem jv.keep{H H':Hp}{C g:Addr}{S:Addr→Prop}{E:Pr→Pr→Prop}{B:Nat}(G:jv H C g S E B)(h:∀a o,S a→H a=some o→H' a=some o)(t:dR H H')(hg:∀o,H g=some o→H' g=some o):jv H' C g S E B:=by
 obtain⟨dg,dl,dm,kl,km,ld,mm,a1,a2,a3,a4⟩:=G;exact⟨dg,dl,dm,kl,km,ld,mm,hg _ a1,a2,a3.keep h t,a4⟩
theorem jv.same{H H':Hp}{C g:Addr}{S:Addr→Prop}{E:Pr→Pr→Prop}{B:Nat}(G:jv H C g S E B)(s:ar H H'):jv H' C g S E B:=G.keep (fun a o _ h=>s a o h) (dR.same s) (fun o h=>s _ _ h)
theorem jv.iff{H:Hp}{C g:Addr}{S:Addr→Prop}{E E':Pr→Pr→Prop}{B B':Nat}(G:jv H C g S E B)(h:∀a b,E' a b↔E a b)(hB:B≤B'):jv H C g S E' B':=by
 obtain⟨dg,dl,dm,kl,km,ld,mm,a1,a2,a3,a4,a5,a6⟩:=G;exact⟨dg,dl,dm,kl,km,ld,mm,a1,a2,a3,fun a b=>(h a b).trans (a4 a b),by lia,by lia⟩
structure Told(E:Pr→Pr→Prop)(gs:List (List Pr)):Prop where
 tQ:∀ps∈gs,ps.Pairwise fun p q=>h_ p q=true
 ne:∀ps∈gs,ps≠[]
 cls:∀ps∈gs,∀a∈ps,∀b,b∈ps↔E a b
 all:∀a,E a a→∃ps∈gs,a∈ps
 apart:gs.Pairwise fun ps qs=>∀a∈ps,a∉qs
inductive su(C:Addr)(vs:List V)(H:Hp)(Q:VK)(u3:XK):Prop
 |mk (x dx:Addr) (_:vs=[.ref x]) (_:H x=some (.ins C dx [])) (_:∀H' S,SameBut x H H'→(∀a,S a→H a=none)→jv H' C x S (fun _ _=>False) 0→Q .cn H'):su C vs H Q u3
inductive ZJ(C:Addr)(vs:List V)(H:Hp)(Q:VK)(u3:XK):Prop
 |mk (x t:Addr) (p:Pr) (S:Addr→Prop) (E:Pr→Pr→Prop) (B:Nat) (_:vs=[.ref x, .ref t]) (_:jv H C x S E B) (_:H t=some (.tup (jW p))) (_:∀b:Bool,(b=true↔E p p)→Q (.bl b) H):ZJ C vs H Q u3
inductive vQ(C:Addr)(vs:List V)(H:Hp)(Q:VK)(u3:XK):Prop
 |mk (x t:Addr) (p:Pr) (S:Addr→Prop) (E:Pr→Pr→Prop) (B:Nat) (_:vs=[.ref x, .ref t]) (_:jv H C x S E B) (_:H t=some (.tup (jW p))) (_:B≤10000) (_:∀H' S',n_ S H S' H'→jv H' C x S' (Ik E p) (B+1)→Q .cn H'):vQ C vs H Q u3
inductive sC(C:Addr)(vs:List V)(H:Hp)(Q:VK)(u3:XK):Prop
 |mk (x t u:Addr) (p q:Pr) (S:Addr→Prop) (E:Pr→Pr→Prop) (B:Nat) (_:vs=[.ref x, .ref t, .ref u]) (_:jv H C x S E B) (_:H t=some (.tup (jW p))) (_:H u=some (.tup (jW q))) (_:E p p) (_:E q q) (_:B≤10000) (_:∀H',n_ S H S H'→jv H' C x S (pW E p q) B→Q .cn H'):sC C vs H Q u3
inductive vR(C:Addr)(vs:List V)(H:Hp)(Q:VK)(u3:XK):Prop
 |mk (x:Addr) (S:Addr→Prop) (E:Pr→Pr→Prop) (B:Nat) (_:vs=[.ref x]) (_:jv H C x S E B) (_:B<10000) (_:∀H' r us gs,n_ S H S H'→H r=none→H' r=some (.lst us)→fT H' us gs→(∀(k:Nat) a,us[k]?=some (.ref a)→H a=none)→Told E gs→Q (.ref r) H'):vR C vs H Q u3
theorem ZF(g:Pr→Option Int)(o i:Int){as:List Pr}(dE:as≠[])(q:Pr)(bs:List Pr):vl g o i (as++q::bs)=vl g o i as-gp o i (lstP as) q+vl g o i (q::bs):=by
 rw[vK,rz g o i dE]
 lia
theorem Wy.app{g:Pr→Option Int}{as:List Pr}{q:Pr}{bs:List Pr}(a:Wy g as)(b:Wy g (q::bs))(s:wR (lstP as) q):Wy g (as++q::bs):=by
 refine⟨Zx,fun x hx=>?_,List.pairwise_append.mpr ⟨a.up,b.up,fun x hx y hy=>?_⟩⟩
 ·rcases List.mem_append.mp hx with h|h
  ·exact a.ok x h
  ·exact b.ok x h
 ·have h1:wR x q:=by
   rcases pw_lst a.up hx with e|e
   ·rw[e];exact s
   ·exact pO e s
  rcases List.mem_cons.mp hy with e|e
  ·rw[e];exact h1
  ·exact pO h1 ((List.pairwise_cons.mp b.up).1 y e)
theorem Wy.left{g:Pr→Option Int}{as bs:List Pr}(w:Wy g (as++bs))(h:as≠[]):Wy g as:=⟨h,fun x hx=>w.ok x (List.mem_append_left _ hx),(List.pairwise_append.mp w.up).1⟩
theorem Wy.right{g:Pr→Option Int}{as bs:List Pr}(w:Wy g (as++bs))(h:bs≠[]):Wy g bs:=⟨h,fun x hx=>w.ok x (List.mem_append_right _ hx),(List.pairwise_append.mp w.up).2.1⟩
section
variable(f:Nat→Nat→Option Int)(o p W:Int)
def BW(ps:List Pr):Prop:=Wy (lf f) ps∧vl (lf f) o p ps=W
def d7:Prop:=∀ps,Wy (lf f) ps→vl (lf f) o p ps≤W
inductive fU:Pr→Pr→Prop
 |way {a b:Pr} (ps:List Pr) (_:BW f o p W ps) (_:a∈ps) (_:b∈ps):fU a b
 |tr {a b c:Pr} (_:fU a b) (_:fU b c):fU a c
def tX(as:List Pr)(x y:Int):Int:=vl (lf f) o p as-(o*(x-1-(lstP as).1)+p*(y-1-(lstP as).2))
def NI(q:Pr)(bs:List Pr)(x y:Int):Int:=vl (lf f) o p (q::bs)-(o*(q.1-x)+p*(q.2-y))
def Over(x y:Int)(r:Pr):Prop:=∃as q bs,Wy (lf f) as∧Wy (lf f) (q::bs)∧(lstP as).1<x∧(lstP as).2<y∧x≤q.1∧y≤q.2∧vl (lf f) o p (as++q::bs)=W∧r∈q::bs
end
section
variable{f:Nat→Nat→Option Int}{o p W:Int}
theorem fU.symm{a b:Pr}(h:fU f o p W a b):fU f o p W b a:=by
 induction h with
 |way ps h1 h2 h3=>exact .way ps h1 h3 h2
 |tr _ _ i1 i2=>exact .tr i2 i1
theorem fU.left{a b:Pr}(h:fU f o p W a b):fU f o p W a a:= .tr h h.symm
theorem fU.on{a b:Pr}(h:fU f o p W a b):∃ps,BW f o p W ps∧a∈ps:=by
 induction h with
 |way ps h1 h2 h3=>exact⟨ps,h1,h2⟩
 |tr _ _ i1 _=>exact i1
theorem mY{as:List Pr}{q:Pr}{bs:List Pr}(dE:as≠[])(x y:Int):vl (lf f) o p (as++q::bs)=tX f o p as x y+NI f o p q bs x y:=by
 rw[ZF _ _ _ dE];unfold tX NI gp;have e1:q.1-(lstP as).1-1=(x-1-(lstP as).1)+(q.1-x):=by lia
 have e2:q.2-(lstP as).2-1=(y-1-(lstP as).2)+(q.2-y):=by lia
 rw[e1,e2,Int.mul_add,Int.mul_add]
 lia
theorem lS(T:d7 f o p W){as wV:List Pr}{q:Pr}{bs:List Pr}{x y:Int}(a:Wy (lf f) as)(b:Wy (lf f) (q::bs))(h3:x≤q.1)(h4:y≤q.2)(hW:vl (lf f) o p (as++q::bs)=W)
  (a':Wy (lf f) wV) (l1:(lstP wV).1<x) (l2:(lstP wV).2<y) (hb:tX f o p as x y≤tX f o p wV x y):BW f o p W (wV++q::bs):=by
 have w:=a'.app b ⟨by lia,by lia⟩;refine⟨w,?_⟩;have:=T _ w;rw[mY a'.ne x y]at this⊢;rw[mY a.ne x y]at hW
 lia
theorem vS{as:List Pr}{i j:Nat}(a:Wy (lf f) as)(l1:(lstP as).1<(i:Int))(l2:(lstP as).2<(j:Int)):∃b,Bq f o p i j=some b∧tX f o p as i j≤b:=by
 have m:=fI f o p i j;cases e:Bq f o p i j with
 |none=>rw[e]at m;exact absurd ⟨as,a,l1,l2,rfl⟩ (m _)
 |some b=>rw[e]at m;exact⟨b,rfl,m.2 _ ⟨as,a,l1,l2,rfl⟩⟩
theorem vT{i j:Nat}{b:Int}(e:Bq f o p i j=some b):∃as,Wy (lf f) as∧(lstP as).1<(i:Int)∧(lstP as).2<(j:Int)∧tX f o p as i j=b:=by
 have m:=fI f o p i j;rw[e]at m;obtain⟨as,h1,h2,h3,h4⟩:=m.1;exact⟨as,h1,h2,h3,h4.symm⟩
theorem lT{i j:Nat}{b:Int}(e:cZ f o p i j=some b):∃as,Wy (lf f) as∧lstP as=aO (i,j)∧vl (lf f) o p as=b:=by
 have m:=r_ f o p i j;rw[e]at m;obtain⟨as,h1,h2,h3⟩:=m.1;exact⟨as,h1,h2,h3.symm⟩
theorem vU{as:List Pr}{i j:Nat}(a:Wy (lf f) as)(l:lstP as=aO (i,j)):∃b,cZ f o p i j=some b∧vl (lf f) o p as≤b:=by
 have m:=r_ f o p i j;cases e:cZ f o p i j with
 |none=>rw[e]at m;exact absurd ⟨as,a,l,rfl⟩ (m _)
 |some b=>rw[e]at m;exact⟨b,rfl,m.2 _ ⟨as,a,l,rfl⟩⟩
theorem Ew{i j:Nat}(e:cZ f o p i j=some W):fU f o p W (aO (i,j)) (aO (i,j)):=by
 obtain⟨as,h1,h2,h3⟩:=lT e;have:aO (i,j)∈as:=by rw[←h2];exact cU h1.ne
 exact .way as ⟨h1,h3⟩ this this
theorem BP(T:d7 f o p W){i j:Nat}{r:Pr}(h:Over f o p W ((i+1:Nat):Int) ((j+1:Nat):Int) r)(e:cZ f o p i j=Bq f o p (i+1) (j+1)):fU f o p W (aO (i,j)) r:=by
 obtain⟨as,q,bs,a,b,l1,l2,l3,l4,hW,hr⟩:=h;obtain⟨v,hv,hle⟩:=vS (o:=o) (p:=p) a l1 l2;rw[hv]at e;obtain⟨wV,a',k1,k2⟩:=lT e;have hb:tX f o p wV ((i+1:Nat):Int) ((j+1:Nat):Int)=v:=by
  unfold tX;rw[k1,k2];have e1:((i+1:Nat):Int)-1-(aO (i,j)).1=0:=by show((i+1:Nat):Int)-1-(i:Int)=0;lia
  have e2:((j+1:Nat):Int)-1-(aO (i,j)).2=0:=by show((j+1:Nat):Int)-1-(j:Int)=0;lia
  rw[e1,e2,Int.mul_zero,Int.mul_zero];lia
 have:=lS T a b l3 l4 hW a' (by rw[k1];simp[aO];lia) (by rw[k1];simp[aO];lia) (by rw[hb];exact hle);refine .way _ this (List.mem_append_left _ ?_) (List.mem_append_right _ hr);rw[←k1];exact cU a'.ne
theorem qB(T:d7 f o p W){i j x y:Nat}{r:Pr}{c:Int}(h:Over f o p W ((i+1:Nat):Int) ((j+1:Nat):Int) r)(hx:x≤i+1)(hy:y≤j+1)(hc:c=o*((i+1:Nat)-x:Int)+p*((j+1:Nat)-y:Int))(e:bx (Bq f o p x y) c=Bq f o p (i+1) (j+1)):Over f o p W (x:Int) (y:Int) r:=by
 obtain⟨as,q,bs,a,b,l1,l2,l3,l4,hW,hr⟩:=h;obtain⟨v,hv,hle⟩:=vS (o:=o) (p:=p) a l1 l2;rw[hv]at e;cases e2:Bq f o p x y with
 |none=>rw[e2]at e;cases e
 |some v2=>
  rw[e2]at e;have e:v2-c=v:=by simpa[bx]using e
  obtain⟨wV,a',k1,k2,k3⟩:=vT e2;have hb:tX f o p wV ((i+1:Nat):Int) ((j+1:Nat):Int)=v:=by
   unfold tX at k3⊢;have e1:((i+1:Nat):Int)-1-(lstP wV).1=((x:Int)-1-(lstP wV).1)+((i+1:Nat)-x:Int):=by lia
   have e2:((j+1:Nat):Int)-1-(lstP wV).2=((y:Int)-1-(lstP wV).2)+((j+1:Nat)-y:Int):=by lia
   rw[e1,e2,Int.mul_add,Int.mul_add]
   lia
  have:=lS T a b l3 l4 hW a' Zq (by lia) (by rw[hb];exact hle);exact⟨wV,q,bs,a',b,k1,k2,by lia,by lia,this.2,hr⟩
theorem GP(T:d7 f o p W){i j:Nat}(h:fU f o p W (aO (i,j)) (aO (i,j)))(g:gA (Bq f o p i j)=true):Over f o p W (i:Int) (j:Int) (aO (i,j)):=by
 obtain⟨ws,⟨hw,hW⟩,hm⟩:=h.on;obtain⟨u,v,rfl⟩:=List.append_of_mem hm;cases e:Bq f o p i j with
 |none=>rw[e]at g;cases g
 |some b=>
  rw[e]at g;have g:0≤b:=by simpa[gA]using g
  obtain⟨as,a,k1,k2,k3⟩:=vT e;have hr:Wy (lf f) (aO (i,j)::v):=hw.right Zr;have ws:=a.app hr ⟨k1,k2⟩;have hle:=T _ ws;have cv:=mY (f:=f) (o:=o) (p:=p) (q:=aO (i,j)) (bs:=v) a.ne (i:Int) (j:Int);have ha:NI f o p (aO (i,j)) v (i:Int) (j:Int)=vl (lf f) o p (aO (i,j)::v):=by
   unfold NI;have e1:(aO (i,j)).1-(i:Int)=0:=by simp[aO]
   have e2:(aO (i,j)).2-(j:Int)=0:=by simp[aO]
   rw[e1,e2,Int.mul_zero,Int.mul_zero];lia
  have YA:W≤b+vl (lf f) o p (aO (i,j)::v):=by
   by_cases hu:u=[]
   ·subst hu;simp only[List.nil_append]at hW
    lia
   ·have cu:=mY (f:=f) (o:=o) (p:=p) (q:=aO (i,j)) (bs:=v) hu (i:Int) (j:Int);have Pe:Wy (lf f) u:=hw.left hu;have hs:wR (lstP u) (aO (i,j)):=(List.pairwise_append.mp hw.up).2.2 _ (cU hu) _ (Zx);obtain⟨b2,LF,WL⟩:=vS (o:=o) (p:=p) Pe (i:=i) (j:=j) hs.1 hs.2;rw[e]at LF;cases LF
    lia
  exact⟨as,aO (i,j),v,a,hr,k1,k2,by simp[aO],by simp[aO],by lia,Zx⟩
theorem over_over(T:d7 f o p W){x y:Int}{r r':Pr}(h:Over f o p W x y r)(h':Over f o p W x y r'):fU f o p W r r':=by
 obtain⟨as,q,bs,a,b,l1,l2,l3,l4,hW,hr⟩:=h;obtain⟨wV,q',WM,a',b',k1,k2,k3,k4,Uj,KL⟩:=h';have w1:BW f o p W (as++q::bs):=⟨a.app b ⟨by lia,by lia⟩,hW⟩
 have w2:BW f o p W (wV++q'::WM):=⟨a'.app b' ⟨by lia,by lia⟩,Uj⟩
 by_cases hb:tX f o p as x y≤tX f o p wV x y
 ·have:=lS T a b l3 l4 hW a' k1 k2 hb;exact .tr (.way (b:=lstP wV) _ this (List.mem_append_right _ hr) (List.mem_append_left _ (cU a'.ne))) (.way _ w2 (List.mem_append_left _ (cU a'.ne)) (List.mem_append_right _ KL))
 ·have:=lS T a' b' k3 k4 Uj a l1 l2 Zq;exact .tr (.way (b:=lstP as) _ w1 (List.mem_append_right _ hr) (List.mem_append_left _ (cU a.ne))) (.way _ this (List.mem_append_left _ (cU a.ne)) (List.mem_append_right _ KL))
theorem between(T:d7 f o p W){u v:List Pr}{q r:Nat×Nat}(w:BW f o p W (u++aO q::aO r::v)):
  (∀x y:Nat,q.1<x→q.2<y→x≤r.1→y≤r.2→Bq f o p x y=some (tX f o p (u++[aO q]) x y))∧cZ f o p q.1 q.2=some (vl (lf f) o p (u++[aO q]))∧0≤tX f o p (u++[aO q]) r.1 r.2:=by
 obtain⟨w,hW⟩:=w;have e:u++aO q::aO r::v=(u++[aO q])++aO r::v:=Zx;rw[e]at w hW;have hl:Wy (lf f) (u++[aO q]):=w.left Zr;have hr:Wy (lf f) (aO r::v):=w.right Zr;have ls:lstP (u++[aO q])=aO q:=dU;have uA:wR (aO q) (aO r):=by
  have:=(List.pairwise_append.mp w.up).2.2 _ (cU hl.ne) (aO r) (Zx);rw[ls]at this;exact this
 refine⟨fun x y h1 h2 h3 h4=>?_,?_,?_⟩
 ·have c1:(lstP (u++[aO q])).1<(x:Int):=by rw[ls];simp[aO];lia
  have c2:(lstP (u++[aO q])).2<(y:Int):=by rw[ls];simp[aO];lia
  obtain⟨b,hb,hle⟩:=vS (o:=o) (p:=p) hl c1 c2;rw[hb]
  congr 1
  obtain⟨as,a,k1,k2,k3⟩:=vT hb;have wa:=a.app hr ⟨by simp[aO];lia,by simp[aO];lia⟩;have:=T _ wa;rw[mY a.ne (x:Int) (y:Int)]at this;rw[mY hl.ne (x:Int) (y:Int)]at hW
  lia
 ·obtain⟨b,hb,hle⟩:=vU (o:=o) (p:=p) hl (i:=q.1) (j:=q.2) ls;rw[hb]
  congr 1
  obtain⟨as,a,k1,k2⟩:=lT hb;have wa:=a.app hr (by rw[k1];exact uA);have:=T _ wa;rw[ZF _ _ _ a.ne,k1,show aO (q.1,q.2)=aO q from rfl]at this;rw[ZF _ _ _ hl.ne,ls]at hW
  lia
 ·have:=T _ hr;rw[mY hl.ne (r.1:Int) (r.2:Int)]at hW;unfold NI at hW;have e1:(aO r).1-(r.1:Int)=0:=by simp[aO]
  have e2:(aO r).2-(r.2:Int)=0:=by simp[aO]
  rw[e1,e2,Int.mul_zero,Int.mul_zero]at hW
  lia
end
abbrev GS:=(Pr→Pr→Prop)×(Pr→Option Pr)
def xN(s:GS)(c r:Pr):GS:=
 match s.2 c with
 |some r0=>(pW s.1 r0 r,s.2)
 |none=>(s.1,fun x=>if x=c then some r else s.2 x)
section
variable(f:Nat→Nat→Option Int)(o p W:Int)
def Il(i j:Nat)(s:GS)(r:Pr):GS:=(if cZ f o p i j=Bq f o p (i+1) (j+1)then pW (Ik s.1 (aO (i,j))) (aO (i,j)) r else s.1,s.2)
def KN(i j:Nat)(s:GS)(r:Pr):GS:=(bp f o p i j).foldl (fun s c=>xN s c r) (Il f o p i j s r)
def GQ(i j:Nat)(s:GS):GS:=(if cZ f o p i j=some W then Ik s.1 (aO (i,j))else s.1,s.2)
def Cm(i j:Nat)(s:GS):GS:=
 match s.2 (aO (i+1,j+1))with
 |some r=>KN f o p i j (GQ f o p W i j s) r
 |none=>GQ f o p W i j s
open Classical in
noncomputable def yu(i j:Nat)(s:GS):GS:=if (Cm f o p W i j s).1 (aO (i,j)) (aO (i,j))∧gA (Bq f o p i j)=true then xN (Cm f o p W i j s) (aO (i,j)) (aO (i,j))else Cm f o p W i j s
structure g9(s:GS):Prop where
 sy:∀a b,s.1 a b→s.1 b a
 tr:∀a b c,s.1 a b→s.1 b c→s.1 a c
 hg:∀a b,s.1 a b→fU f o p W a b
 mr:∀c r,s.2 c=some r→s.1 r r∧∃i j:Nat,c=aO (i,j)∧Over f o p W (i:Int) (j:Int) r
end
structure Gw(s s':GS)(N:Pr→Prop)(M:Pr→Prop):Prop where
 e:∀a b,s.1 a b→s'.1 a b
 n:∀a,s'.1 a a→s.1 a a∨N a
 m:∀c r,s.2 c=some r→s'.2 c=some r
 k:∀c r,s'.2 c=some r→s.2 c=some r∨M c
theorem Gw.refl{s:GS}{N M:Pr→Prop}:Gw s s N M:=⟨fun _ _ h=>h,fun _ h=> .inl h,fun _ _ h=>h,fun _ _ h=> .inl h⟩
theorem Gw.trans{s s' vh:GS}{N M:Pr→Prop}(a:Gw s s' N M)(b:Gw s' vh N M):Gw s vh N M:=
 ⟨fun x y h=>b.e x y (a.e x y h),fun x h=>(b.n x h).elim (a.n x) .inr,fun c r h=>b.m c r (a.m c r h),fun c r h=>(b.k c r h).elim (a.k c r) .inr⟩
theorem Gw.wide{s s':GS}{N M N' M':Pr→Prop}(a:Gw s s' N M)(hN:∀x,N x→N' x)(hM:∀x,M x→M' x):Gw s s' N' M':=⟨a.e,fun x h=>(a.n x h).imp id (hN x),a.m,fun c r h=>(a.k c r h).imp id (hM c)⟩
section
variable{f:Nat→Nat→Option Int}{o p W:Int}{s:GS}
theorem g9.Uk(k:g9 f o p W s){a b:Pr}(ha:s.1 a a)(hb:s.1 b b)(h:fU f o p W a b):g9 f o p W (pW s.1 a b,s.2):=by
 have hc:∀c,s.1 c a∨s.1 c b→fU f o p W c a:=fun c h'=>h'.elim (k.hg c a) fun z=> .tr (k.hg c b z) h.symm
 refine⟨fun x y h=>?_,fun x y z h1 h2=>?_,fun x y h=>?_,fun c r h=>⟨.inl (k.mr c r h).1,(k.mr c r h).2⟩⟩
 ·exact h.imp (k.sy x y) fun h=>⟨h.2,h.1⟩
 ·rcases h1 with h1|⟨h1,HU⟩
  ·rcases h2 with h2|⟨h2,HV⟩
   ·exact .inl (k.tr _ _ _ h1 h2)
   ·exact .inr ⟨h2.imp (k.tr _ _ _ h1) (k.tr _ _ _ h1),HV⟩
  ·rcases h2 with h2|⟨h2,HV⟩
   ·exact .inr ⟨h1,HU.imp (k.tr _ _ _ (k.sy _ _ h2)) (k.tr _ _ _ (k.sy _ _ h2))⟩
   ·exact .inr ⟨h1,HV⟩
 ·rcases h with h|⟨h1,h2⟩
  ·exact k.hg x y h
  ·exact .tr (hc x h1) (hc y h2).symm
theorem g9.take(k:g9 f o p W s){a:Pr}(h:fU f o p W a a):g9 f o p W (Ik s.1 a,s.2):=by
 refine⟨fun x y h=>?_,fun x y z h1 h2=>?_,fun x y h'=>?_,fun c r h=>⟨.inl (k.mr c r h).1,(k.mr c r h).2⟩⟩
 ·exact h.imp (k.sy x y) fun h=>⟨h.2,h.1⟩
 ·rcases h1 with h1|⟨h1,HU⟩
  ·rcases h2 with h2|⟨h2,HV⟩
   ·exact .inl (k.tr _ _ _ h1 h2)
   ·subst h2 HV;exact .inl h1
  ·subst h1 HU;exact h2
 ·rcases h' with h'|⟨h1,h2⟩
  ·exact k.hg x y h'
  ·subst h1 h2;exact h
theorem Ex(sy:∀a b,s.1 a b→s.1 b a)(tr:∀a b c,s.1 a b→s.1 b c→s.1 a c){a b:Pr}:Gw s (pW s.1 a b,s.2) (fun _=>False) (fun _=>False):=by
 refine⟨fun _ _ h=> .inl h,fun x h=> .inl ?_,fun _ _ h=>h,fun _ _ h=> .inl h⟩;rcases h with h|⟨h,_⟩
 ·exact h
 ·exact h.elim (fun z=>tr _ _ _ z (sy _ _ z)) fun z=>tr _ _ _ z (sy _ _ z)
theorem g9.mark(T:d7 f o p W)(k:g9 f o p W s){i j:Nat}{r:Pr}(hr:s.1 r r)(ov:Over f o p W (i:Int) (j:Int) r):g9 f o p W (xN s (aO (i,j)) r):=by
 unfold xN;cases e:s.2 (aO (i,j))with
 |some r0=>
  obtain⟨h1,i2,j2,h2,h3⟩:=k.mr _ _ e;have h2:(i:Int)=i2∧(j:Int)=j2:=by simpa[aO]using h2
  rw[←h2.1,←h2.2]at h3;exact k.Uk h1 hr (over_over T h3 ov)
 |none=>
  refine⟨k.sy,k.tr,k.hg,fun c r' h=>?_⟩;have h:(if c=aO (i,j)then some r else s.2 c)=some r':=h;by_cases e2:c=aO (i,j)
  ·rw[Zi e2]at h;cases h;exact⟨hr,i,j,e2,ov⟩
  ·rw[Ze e2]at h;exact k.mr c r' h
theorem Im(k:g9 f o p W s){c r:Pr}:Gw s (xN s c r) (fun _=>False) (·=c):=by
 unfold xN;cases e:s.2 c with
 |some r0=>exact(Ex k.sy k.tr).wide (fun _ h=>h) fun _ h=>h.elim
 |none=>
  refine⟨fun _ _ h=>h,fun _ h=> .inl h,fun c' r' h=>?_,fun c' r' h=>?_⟩
  ·show(if c'=c then some r else s.2 c')=some r';rw[Ze (fun z=>by rw[z,e]at h;cases h)];exact h
  ·have h:(if c'=c then some r else s.2 c')=some r':=h;by_cases e2:c'=c
   ·exact .inr e2
   ·rw[Ze e2]at h;exact .inl h
theorem Ey(k:g9 f o p W s){c r:Pr}(hr:s.1 r r):∃r',(xN s c r).2 c=some r'∧(xN s c r).1 r r':=by
 unfold xN;cases e:s.2 c with
 |some r0=>exact⟨r0,e, .inr ⟨.inr hr, .inl (k.mr _ _ e).1⟩⟩
 |none=>exact⟨r,Zx,hr⟩
theorem sD(T:d7 f o p W){r:Pr}:∀(cs:List Pr)(s:GS),g9 f o p W s→s.1 r r→(∀c∈cs,∃i j:Nat,c=aO (i,j)∧Over f o p W (i:Int) (j:Int) r)→
  g9 f o p W (cs.foldl (fun s c=>xN s c r) s)∧Gw s (cs.foldl (fun s c=>xN s c r) s) (fun _=>False) (·∈cs)∧∀c∈cs,∃r',(cs.foldl (fun s c=>xN s c r) s).2 c=some r'∧(cs.foldl (fun s c=>xN s c r) s).1 r r'
 |[],s,k,_,_=>⟨k, .refl,fun c h=>by cases h⟩
 |c::cs,s,k,hr,h=>by
  obtain⟨i,j,rfl,ov⟩:=h c (Zx);have k1:=k.mark T hr ov;have g1:=Im k (c:=aO (i,j)) (r:=r);obtain⟨r',m1,m2⟩:=Ey k (c:=aO (i,j)) hr;obtain⟨a1,a2,a3⟩:=sD T cs _ k1 (g1.e _ _ hr) fun c hc=>h c (by simp[hc])
  refine⟨a1,(g1.wide (fun _ h=>h) fun x hx=>?_).trans (a2.wide (fun _ h=>h) fun x hx=>?_),fun c hc=>?_⟩
  ·show x∈_::_;rw[hx];simp
  ·exact List.mem_cons_of_mem _ hx
  ·rcases List.mem_cons.mp hc with rfl|hc
   ·exact⟨r',a2.m _ _ m1,a2.e _ _ m2⟩
   ·exact a3 c hc
theorem qC(T:d7 f o p W){i j:Nat}{r:Pr}(h:Over f o p W ((i+1:Nat):Int) ((j+1:Nat):Int) r):∀c∈bp f o p i j,∃x y:Nat,c=aO (x,y)∧Over f o p W (x:Int) (y:Int) r:=by
 intro c hc;unfold bp at hc;rcases List.mem_append.mp hc with hc|hc
 ·split at hc
  ·rename_i e
   have:c=aO (i,j+1):=by simpa[aO]using hc
   refine⟨i,j+1,this,qB T h Zq (by lia) ?_ e⟩;have e1:((i+1:Nat):Int)-(i:Int)=1:=by lia
   have e2:((j+1:Nat):Int)-((j+1:Nat):Int)=0:=by lia
   rw[e1,e2];lia
  ·cases hc
 ·split at hc
  ·rename_i e
   have:c=aO (i+1,j):=by simpa[aO]using hc
   refine⟨i+1,j,this,qB T h Zq (by lia) ?_ e⟩;have e1:((i+1:Nat):Int)-((i+1:Nat):Int)=0:=by lia
   have e2:((j+1:Nat):Int)-(j:Int)=1:=by lia
   rw[e1,e2];lia
  ·cases hc
theorem Ez(T:d7 f o p W)(k:g9 f o p W s){i j:Nat}{r:Pr}(hr:s.1 r r)(ov:Over f o p W ((i+1:Nat):Int) ((j+1:Nat):Int) r):
  g9 f o p W (Il f o p i j s r)∧Gw s (Il f o p i j s r) (·=aO (i,j)) (·∈bp f o p i j)∧(cZ f o p i j=Bq f o p (i+1) (j+1)→(Il f o p i j s r).1 (aO (i,j)) r):=by
 unfold Il;by_cases e:cZ f o p i j=Bq f o p (i+1) (j+1)
 ·rw[Zi e];have h:=BP T ov e;have k1:=k.take h.left;have k2:=k1.Uk (a:=aO (i,j)) (b:=r) (.inr ⟨rfl,rfl⟩) (.inl hr) h;refine⟨k2,⟨fun a b h=> .inl (.inl h),fun a h=>?_,fun _ _ h=>h,fun _ _ h=> .inl h⟩,fun _=> .inr ⟨.inl (.inr ⟨rfl,rfl⟩), .inr (.inl hr)⟩⟩;rcases(Ex (s:=(Ik s.1 (aO (i,j)),s.2)) k1.sy k1.tr).n a h with h|h
  ·exact h.imp id And.left
  ·exact h.elim
 ·rw[Ze e];exact⟨⟨k.sy,k.tr,k.hg,k.mr⟩, .refl,fun z=>absurd z e⟩
theorem NJ(T:d7 f o p W)(k:g9 f o p W s){i j:Nat}{r:Pr}(hr:s.1 r r)(ov:Over f o p W ((i+1:Nat):Int) ((j+1:Nat):Int) r):
  g9 f o p W (KN f o p i j s r)∧Gw s (KN f o p i j s r) (·=aO (i,j)) (·∈bp f o p i j)∧(cZ f o p i j=Bq f o p (i+1) (j+1)→(KN f o p i j s r).1 (aO (i,j)) r)∧∀c∈bp f o p i j,∃r',(KN f o p i j s r).2 c=some r'∧(KN f o p i j s r).1 r r':=by
 obtain⟨b1,b2,b3⟩:=Ez T k hr ov;obtain⟨a1,a2,a3⟩:=sD T (bp f o p i j) _ b1 (b2.e _ _ hr) (qC T ov);exact⟨a1,b2.trans (a2.wide (fun _ h=>h.elim) fun _ h=>h),fun e=>a2.e _ _ (b3 e),a3⟩
theorem EA(k:g9 f o p W s)(i j:Nat):g9 f o p W (GQ f o p W i j s)∧Gw s (GQ f o p W i j s) (·=aO (i,j)) (fun _=>False)∧(cZ f o p i j=some W→(GQ f o p W i j s).1 (aO (i,j)) (aO (i,j))):=by
 unfold GQ;by_cases e:cZ f o p i j=some W
 ·rw[Zi e];exact⟨k.take (Ew e),⟨fun _ _ h=> .inl h,fun _ h=>h.imp id And.left,fun _ _ h=>h,fun _ _ h=> .inl h⟩,fun _=> .inr ⟨rfl,rfl⟩⟩
 ·rw[Ze e];exact⟨⟨k.sy,k.tr,k.hg,k.mr⟩, .refl,fun z=>absurd z e⟩
def KO(f:Nat→Nat→Option Int)(o p:Int)(i j:Nat)(c:Pr):Prop:=c∈bp f o p i j∨c=aO (i,j)
theorem EB(T:d7 f o p W)(k:g9 f o p W s)(i j:Nat):g9 f o p W (Cm f o p W i j s)∧Gw s (Cm f o p W i j s) (·=aO (i,j)) (KO f o p i j)∧(cZ f o p i j=some W→(Cm f o p W i j s).1 (aO (i,j)) (aO (i,j)))∧∀r,s.2 (aO (i+1,j+1))=some r→
  (cZ f o p i j=Bq f o p (i+1) (j+1)→(Cm f o p W i j s).1 (aO (i,j)) r)∧∀c∈bp f o p i j,∃r',(Cm f o p W i j s).2 c=some r'∧(Cm f o p W i j s).1 r r':=by
 obtain⟨k1,g1,e1⟩:=EA k i j;unfold Cm;cases e:s.2 (aO (i+1,j+1))with
 |none=>exact⟨k1,g1.wide (fun _ h=>h) fun _ h=>h.elim,e1,fun r h=>by cases h⟩
 |some r=>
  obtain⟨h1,i2,j2,h2,h3⟩:=k.mr _ _ e;have h2:((i+1:Nat):Int)=i2∧((j+1:Nat):Int)=j2:=by simpa[aO]using h2
  rw[←h2.1,←h2.2]at h3;obtain⟨a1,a2,a3,a4⟩:=NJ T k1 (g1.e _ _ h1) h3;refine⟨a1,(g1.wide (fun _ h=>h) fun _ h=>h.elim).trans (a2.wide (fun _ h=>h) fun _ h=> .inl h),fun z=>a2.e _ _ (e1 z),fun r' h=>?_⟩;cases h;exact⟨a3,a4⟩
theorem NK(T:d7 f o p W)(k:g9 f o p W s)(i j:Nat):g9 f o p W (yu f o p W i j s)∧Gw s (yu f o p W i j s) (·=aO (i,j)) (KO f o p i j)∧(cZ f o p i j=some W→(yu f o p W i j s).1 (aO (i,j)) (aO (i,j)))∧(∀r,s.2 (aO (i+1,j+1))=some r→
  (cZ f o p i j=Bq f o p (i+1) (j+1)→(yu f o p W i j s).1 (aO (i,j)) r)∧∀c∈bp f o p i j,∃r',(yu f o p W i j s).2 c=some r'∧(yu f o p W i j s).1 r r')∧
  ((yu f o p W i j s).1 (aO (i,j)) (aO (i,j))→gA (Bq f o p i j)=true→∃r,(yu f o p W i j s).2 (aO (i,j))=some r∧(yu f o p W i j s).1 (aO (i,j)) r):=by
 obtain⟨k1,g1,e1,o1⟩:=EB T k i j;unfold yu;split
 ·rename_i h
  have k2:=k1.mark T h.1 (GP T (k1.hg _ _ h.1) h.2);have g2:=Im k1 (c:=aO (i,j)) (r:=aO (i,j));refine⟨k2,g1.trans (g2.wide (fun _ h=>h.elim) fun _ h=> .inr h),fun z=>g2.e _ _ (e1 z),fun r hr=>?_,fun _ _=>Ey k1 h.1⟩;obtain⟨a1,a2⟩:=o1 r hr;refine⟨fun z=>g2.e _ _ (a1 z),fun c hc=>?_⟩;obtain⟨r',b1,b2⟩:=a2 c hc;exact⟨r',g2.m _ _ b1,g2.e _ _ b2⟩
 ·rename_i h
  exact⟨k1,g1,e1,o1,fun h1 h2=>absurd ⟨h1,h2⟩ h⟩
end
structure Vd(f:Nat→Nat→Option Int)(o p W:Int)(V:Nat→Nat→Prop)(s:GS):Prop where
 ok:g9 f o p W s
 WN:∀a,s.1 a a→∃i j:Nat,a=aO (i,j)∧V i j
 en:∀i j,V i j→cZ f o p i j=some W→s.1 (aO (i,j)) (aO (i,j))
 on:∀i j,V i j→s.1 (aO (i,j)) (aO (i,j))→gA (Bq f o p i j)=true→∃r,s.2 (aO (i,j))=some r∧s.1 (aO (i,j)) r
 ov:∀i j r,V i j→s.2 (aO (i+1,j+1))=some r→(cZ f o p i j=Bq f o p (i+1) (j+1)→s.1 (aO (i,j)) r)∧∀c∈bp f o p i j,∃r',s.2 c=some r'∧s.1 r r'
theorem iA{a b c d:Nat}(h:aO (a,b)=aO (c,d)):a=c∧b=d:=by
 have h:(a:Int)=c∧(b:Int)=d:=by simpa[aO]using h
 lia
theorem EC{f:Nat→Nat→Option Int}{o p:Int}{i j a b:Nat}(h:KO f o p i j (aO (a+1,b+1))):(a+1=i∧b+1=j)∨(a+1=i∧b=j)∨(a=i∧b+1=j):=by
 rcases h with h|h
 ·unfold bp at h;rcases List.mem_append.mp h with h|h
  ·split at h
   ·have:aO (a+1,b+1)=aO (i,j+1):=by simpa[aO]using h
    have:=iA this
    lia
   ·cases h
  ·split at h
   ·have:aO (a+1,b+1)=aO (i+1,j):=by simpa[aO]using h
    have:=iA this
    lia
   ·cases h
 ·have:=iA h
  lia
def Vb(n m i j:Nat)(a b:Nat):Prop:=a<n∧b<m∧(i<a∨(i=a∧j≤b))
theorem Vd.start(f:Nat→Nat→Option Int)(o p W:Int)(n m:Nat):Vd f o p W (Vb n m n 0) (fun _ _=>False,fun _=>none):=by
 have no:∀a b,¬Vb n m n 0 a b:=fun a b ⟨h1,_,h2⟩=>by lia
 exact⟨⟨fun _ _ h=>h.elim,fun _ _ _ h=>h.elim,fun _ _ h=>h.elim,fun _ _ h=>(by cases h)⟩,fun _ h=>h.elim,fun i j h=>absurd h (no i j),fun i j h=>absurd h (no i j),fun i j r h=>absurd h (no i j)⟩
theorem Vd.turn{f:Nat→Nat→Option Int}{o p W:Int}{n m i:Nat}{s:GS}(v:Vd f o p W (Vb n m (i+1) 0) s):Vd f o p W (Vb n m i m) s:=by
 have e:Vb n m (i+1) 0=Vb n m i m:=by
  funext a b
  simp only[Vb,eq_iff_iff]
  lia
 rw[←e];exact v
theorem Vd.next{f:Nat→Nat→Option Int}{o p W:Int}{n m i j:Nat}{s:GS}(T:d7 f o p W)(hi:i<n)(hj:j<m)(v:Vd f o p W (Vb n m i (j+1)) s):Vd f o p W (Vb n m i j) (yu f o p W i j s):=by
 obtain⟨k,g,e,ov,on⟩:=NK T v.ok i j;have cut:∀a b,Vb n m i j a b→(a=i∧b=j)∨Vb n m i (j+1) a b:=fun a b h=>by
  unfold Vb at h⊢
  lia
 have old:∀a b r,Vb n m i j a b→(yu f o p W i j s).2 (aO (a+1,b+1))=some r→s.2 (aO (a+1,b+1))=some r:=fun a b r h hr=>by
  rcases g.k _ _ hr with z|z
  ·exact z
  ·have:=EC z;unfold Vb at h
   lia
 refine⟨k,fun a ha=>?_,fun a b h he=>?_,fun a b h h1 h2=>?_,fun a b r h hr=>?_⟩
 ·rcases g.n a ha with z|z
  ·obtain⟨x,y,h1,h2⟩:=v.WN a z;exact⟨x,y,h1,by unfold Vb at h2⊢;lia⟩
  ·exact⟨i,j,z,by unfold Vb;lia⟩
 ·rcases cut a b h with⟨rfl,rfl⟩|h'
  ·exact e he
  ·exact g.e _ _ (v.en a b h' he)
 ·rcases cut a b h with⟨rfl,rfl⟩|h'
  ·exact on h1 h2
  ·have hs:s.1 (aO (a,b)) (aO (a,b)):=by
    rcases g.n _ h1 with z|z
    ·exact z
    ·have:=iA z;unfold Vb at h'
     lia
   obtain⟨r,z1,z2⟩:=v.on a b h' hs h2;exact⟨r,g.m _ _ z1,g.e _ _ z2⟩
 ·have KL:=old a b r h hr;rcases cut a b h with⟨rfl,rfl⟩|h'
  ·exact ov r KL
  ·obtain⟨z1,z2⟩:=v.ov a b r h' KL;refine⟨fun z=>g.e _ _ (z1 z),fun c hc=>?_⟩;obtain⟨r',y1,y2⟩:=z2 c hc;exact⟨r',g.m _ _ y1,g.e _ _ y2⟩
theorem jw{f:Nat→Nat→Option Int}{n m:Nat}(t:Ce f n m){ps:List Pr}(w:Wy (lf f) ps){a:Pr}(h:a∈ps):∃i j:Nat,a=aO (i,j)∧i<n∧j<m:=by
 have hs:=w.ok a h;obtain⟨i,j,rfl⟩:=Ap hs;rw[pQ]at hs;obtain⟨h1,h2⟩:=t i j hs;exact⟨i,j,rfl,h1,h2⟩
theorem Vd.step{f:Nat→Nat→Option Int}{o p W:Int}{n m:Nat}{s:GS}(T:d7 f o p W)(v:Vd f o p W (Vb n m 0 0) s){us vs:List Pr}{q r:Nat×Nat}(w:BW f o p W (us++aO q::aO r::vs))(hr:r.1<n)(yv:r.2<m)(hq:q.1<r.1)(RM:q.2<r.2)(hE:s.1 (aO r) (aO r)):s.1 (aO q) (aO r):=by
 obtain⟨b1,b2,b3⟩:=between T w;have ok:=v.ok;have V0:∀a b,a<n→b<m→Vb n m 0 0 a b:=fun a b h1 h2=>⟨h1,h2,by lia⟩
 have top:=b1 r.1 r.2 hq RM (Nat.le_refl _) (Nat.le_refl _);obtain⟨r0,m0,e0⟩:=v.on r.1 r.2 (V0 _ _ hr yv) hE (by rw[top];simpa[gA]using b3);have WO:∀x y:Nat,tX f o p (us++[aO q]) (x:Int) (y:Int)-o=tX f o p (us++[aO q]) ((x+1:Nat):Int) (y:Int):=fun x y=>by
  unfold tX;have e1:((x+1:Nat):Int)-1-(lstP (us++[aO q])).1=((x:Int)-1-(lstP (us++[aO q])).1)+1:=by lia
  rw[e1,Int.mul_add];lia
 have WQ:∀x y:Nat,tX f o p (us++[aO q]) (x:Int) (y:Int)-p=tX f o p (us++[aO q]) (x:Int) ((y+1:Nat):Int):=fun x y=>by
  unfold tX;have e1:((y+1:Nat):Int)-1-(lstP (us++[aO q])).2=((y:Int)-1-(lstP (us++[aO q])).2)+1:=by lia
  rw[e1,Int.mul_add];lia
 have go:∀d x y:Nat,(r.1-x)+(r.2-y)=d→q.1<x→q.2<y→x≤r.1→y≤r.2→∃r',s.2 (aO (x,y))=some r'∧s.1 (aO r) r':=by
  intro d
  induction d with
  |zero=>
   intro x y hd h1 h2 h3 h4;have:x=r.1:=by lia
   have:y=r.2:=by lia
   subst x y;exact⟨r0,m0,e0⟩
  |succ d ih=>
   intro x y hd h1 h2 h3 h4;by_cases hx:x<r.1
   ·obtain⟨r1,m1,e1⟩:=ih (x+1) y Zq (by lia) h2 Zq h4;obtain⟨y,rfl⟩:∃y',y=y'+1:=⟨y-1,by lia⟩
    obtain⟨_,z⟩:=v.ov x y r1 (V0 _ _ (by lia) (by lia)) m1;have hc:aO (x,y+1)∈bp f o p x y:=by
     unfold bp;refine List.mem_append_left _ ?_;rw[if_pos]
     ·simp[aO]
     ·rw[b1 x (y+1) h1 h2 h3 h4,b1 (x+1) (y+1) (by lia) h2 Zq h4];simp only[bx];rw[WO]
    obtain⟨r2,m2,e2⟩:=z _ hc;exact⟨r2,m2,ok.tr _ _ _ e1 e2⟩
   ·obtain⟨r1,m1,e1⟩:=ih x (y+1) (by lia) h1 Zq h3 Zq;obtain⟨x,rfl⟩:∃x',x=x'+1:=⟨x-1,by lia⟩
    obtain⟨_,z⟩:=v.ov x y r1 (V0 _ _ (by lia) (by lia)) m1;have hc:aO (x+1,y)∈bp f o p x y:=by
     unfold bp;refine List.mem_append_right _ ?_;rw[if_pos]
     ·simp[aO]
     ·rw[b1 (x+1) y h1 h2 h3 h4,b1 (x+1) (y+1) h1 Zq h3 Zq];simp only[bx];rw[WQ]
    obtain⟨r2,m2,e2⟩:=z _ hc;exact⟨r2,m2,ok.tr _ _ _ e1 e2⟩
 obtain⟨r1,m1,e1⟩:=go _ (q.1+1) (q.2+1) rfl (by lia) (by lia) (by lia) (by lia);obtain⟨z,_⟩:=v.ov q.1 q.2 r1 (V0 _ _ (by lia) (by lia)) m1;have:=z (by
  rw[b2,b1 (q.1+1) (q.2+1) (by lia) (by lia) (by lia) (by lia)]
  congr 1
  unfold tX;rw[dU];have z1:((q.1+1:Nat):Int)-1-(aO q).1=0:=by show((q.1+1:Nat):Int)-1-(q.1:Int)=0;lia
  have z2:((q.2+1:Nat):Int)-1-(aO q).2=0:=by show((q.2+1:Nat):Int)-1-(q.2:Int)=0;lia
  rw[z1,z2,Int.mul_zero,Int.mul_zero];lia)
 exact ok.tr _ _ _ this (ok.sy _ _ e1)
theorem Vd.all{f:Nat→Nat→Option Int}{o p W:Int}{n m:Nat}{s:GS}(T:d7 f o p W)(t:Ce f n m)(v:Vd f o p W (Vb n m 0 0) s){ws:List Pr}(w:BW f o p W ws):
  ∀(vs us:List Pr),ws=us++vs→vs≠[]→∀a∈vs,s.1 a (bY vs)
 |[],_,_,h=>absurd rfl h
 |[l],us,e,_=>fun a ha=>by
  have ha:a=l:=by simpa using ha
  subst ha;show s.1 a a;obtain⟨i,j,rfl,hi,hj⟩:=jw t w.1 (a:=a) (by rw[e];simp);have hl:lstP ws=aO (i,j):=by rw[e];exact dU
  obtain⟨b,hb,hle⟩:=vU (o:=o) (p:=p) w.1 hl;obtain⟨as,a1,a2,a3⟩:=lT hb;have:=T _ a1;have hW:=w.2;exact v.en i j ⟨hi,hj,by lia⟩ (by rw[hb];congr 1;lia)
 |q::r::vs,us,e,_=>fun a ha=>by
  have ih:=Vd.all T t v w (r::vs) (us++[q]) (by rw[e];simp) (Zx);have LG:s.1 r r:=ih r Zr;have ok:=v.ok;obtain⟨i,j,hq,hi,hj⟩:=jw t w.1 (a:=q) (by rw[e];simp);obtain⟨x,y,hr,hx,hy⟩:=jw t w.1 (a:=r) (by rw[e];simp);have uA:wR q r:=by
   have:=w.1.up;rw[e]at this;exact(List.pairwise_cons.mp (List.pairwise_append.mp this).2.1).1 r Zr
  rw[hq,hr]at uA;have h1:(i:Int)<x:=uA.1;have h2:(j:Int)<y:=uA.2;rw[e,hq,hr]at w;have key:=v.step T w (q:=(i,j)) (r:=(x,y)) hx hy (by show i<x;lia) (by show j<y;lia) (by rw[←hr];exact LG);rw[←hq,←hr]at key;show s.1 a q;rcases List.mem_cons.mp ha with rfl|ha
  ·exact ok.tr _ _ _ key (ok.sy _ _ key)
  ·exact ok.tr _ _ _ (ih a ha) (ok.sy _ _ key)
theorem Vd.RN{f:Nat→Nat→Option Int}{o p W:Int}{n m:Nat}{s:GS}(T:d7 f o p W)(t:Ce f n m)(v:Vd f o p W (Vb n m 0 0) s)(a b:Pr):s.1 a b↔fU f o p W a b:=by
 refine⟨v.ok.hg a b,fun h=>?_⟩
 induction h with
 |way ps w h1 h2=>
  have k:=Vd.all T t v w ps [] rfl w.1.ne;exact v.ok.tr _ _ _ (k _ h1) (v.ok.sy _ _ (k _ h2))
 |tr _ _ i1 i2=>exact v.ok.tr _ _ _ i1 i2
theorem Told.iff{E E':Pr→Pr→Prop}{gs:List (List Pr)}(t:Told E gs)(h:∀a b,E a b↔E' a b):Told E' gs:=
 ⟨t.tQ,t.ne,fun ps hp a ha b=>(t.cls ps hp a ha b).trans (h a b),fun a ha=>t.all a ((h a a).mpr ha),t.apart⟩
def NT(H:Hp)(a:Addr):Prop:=∃o,H a=some o∧∀v,o≠ .tup v
theorem NT.same{H H':Hp}{a:Addr}(h:NT H a)(s:ar H H'):NT H' a:=let ⟨o,h1,h2⟩:=h;⟨o,s _ _ h1,h2⟩
theorem n_.cw{S S':Addr→Prop}{H H':Hp}(u:n_ S H S' H')(h:∀a,S a→NT H a):dR H H':=fun t v e=>u.keep t _ (fun z=>by
 obtain⟨o,h1,h2⟩:=h t z;rw[e]at h1;cases h1;exact h2 v rfl) e
theorem n_.out{S S':Addr→Prop}{H H':Hp}(u:n_ S H S' H'){a:Addr}{o:HO}(h:¬S a)(e:H a=some o):¬S' a:=fun z=>by
 rcases u.grow a z with z|z
 ·exact h z
 ·rw[e]at z;cases z
theorem jv.nt{H:Hp}{C g:Addr}{S:Addr→Prop}{E:Pr→Pr→Prop}{B:Nat}(G:jv H C g S E B):jv H C g (fun a=>S a∧NT H a) E B:=by
 obtain⟨dg,dl,dm,kl,km,ld,mm,a1,a2,D,a4⟩:=G;refine⟨dg,dl,dm,kl,km,ld,mm,a1,fun z=>a2 z.1,⟨D.hl,D.hm,⟨D.sl,_,D.hl,fun v=>(Zx)⟩,⟨D.sm,_,D.hm,fun v=>(Zx)⟩,D.ne,D.lv,fun p=>?_,D.inj,D.key,D.AH,D.ms,D.ml,D.self⟩,a4⟩;have:=D.mv p;cases e:mm p with
 |none=>rw[e]at this;exact this
 |some ms=>
  rw[e]at this;obtain⟨a,us,h1,h2,h3,h4⟩:=this;exact⟨a,us,h1,h2,h3,h4,_,h2,fun v=>(Zx)⟩
structure Io(K:W.Frag)(C:Addr):Prop where
 cl:vf K C
 sF:bR K C "trails"
 worth:bR K C "worth"
 groups:bR K C "groups"
 marks:bR K C "marks"
def jx(tr:Addr)(W:Int)(g dk:Addr):List (Str×V):=[("trails", .ref tr),("worth", .int W),("groups", .ref g),("marks", .ref dk)]
theorem lU(a:Addr)(W:Int)(b c:Addr):(jx a W b c).lookup ("trails":Str)=some (V.ref a):=by kernel_rfl
theorem ED(a:Addr)(W:Int)(b c:Addr):(jx a W b c).lookup ("worth":Str)=some (V.int W):=by kernel_rfl
theorem iH(a:Addr)(W:Int)(b c:Addr):(jx a W b c).lookup ("groups":Str)=some (V.ref b):=by kernel_rfl
theorem lb(a:Addr)(W:Int)(b c:Addr):(jx a W b c).lookup ("marks":Str)=some (V.ref c):=by kernel_rfl
theorem AL(a:Addr)(W:Int)(b c:Addr):(jx a W b c).lookup ("mark":Str)=none:=by kernel_rfl
theorem GR(a:Addr)(W:Int)(b c:Addr):(jx a W b c).lookup ("go_over":Str)=none:=by kernel_rfl
theorem EF(a:Addr)(W:Int)(b c:Addr):(jx a W b c).lookup ("visit":Str)=none:=by kernel_rfl
theorem KP(a:Addr)(W:Int)(b c:Addr):bo "marks" (.ref c) (bo "groups" (.ref b) (bo "worth" (.int W) (bo "trails" (.ref a) [])))=jx a W b c:=by kernel_rfl
structure KR(H:Hp)(C CG x tr:Addr)(W:Int)(S:Addr→Prop)(s:GS)(B M:Nat)(dx g dk:Addr)(km:List (List Key×V))(S1:Addr→Prop):Prop where
 ob:H x=some (.ins C dx (jx tr W g dk))
 gr:jv H CG g S1 s.1 B
 hk:H dk=some (.dT km)
 mv:∀c,KI H (bu km (a8 c)) (s.2 c)
 len:km.length≤M
 sS:∀a,S a↔S1 a∨a=dk
 AH:¬S1 dk
 nx:¬S x
 ng:¬S g
 nt:∀a,S a→NT H a
def g_(H:Hp)(C CG x tr:Addr)(W:Int)(S:Addr→Prop)(s:GS)(B M:Nat):Prop:=∃dx g dk km S1,KR H C CG x tr W S s B M dx g dk km S1
theorem g_.nt{H:Hp}{C CG x tr:Addr}{W:Int}{S:Addr→Prop}{s:GS}{B M:Nat}(G:g_ H C CG x tr W S s B M):∀a,S a→NT H a:=let ⟨_,_,_,_,_,D⟩:=G;D.nt
theorem g_.same{H H':Hp}{C CG x tr:Addr}{W:Int}{S:Addr→Prop}{s:GS}{B M:Nat}(G:g_ H C CG x tr W S s B M)(t:ar H H'):g_ H' C CG x tr W S s B M:=by
 obtain⟨dx,g,dk,km,S1,D⟩:=G;exact⟨dx,g,dk,km,S1,t _ _ D.ob,D.gr.same t,t _ _ D.hk,fun c=>(D.mv c).cw (dR.same t),D.len,D.sS,D.AH,D.nx,D.ng,fun a h=>(D.nt a h).same t⟩
theorem g_.out{H:Hp}{C CG x tr:Addr}{W:Int}{S:Addr→Prop}{s:GS}{B M:Nat}(G:g_ H C CG x tr W S s B M){a:Addr}(h:H a=none):¬S a:=fun z=>by
 obtain⟨o,e,_⟩:=G.nt a z;rw[h]at e;cases e
theorem g_.cast{H:Hp}{C CG x tr:Addr}{W:Int}{S:Addr→Prop}{s s':GS}{B M B' M':Nat}(G:g_ H C CG x tr W S s B M)(h:s=s')(hB:B≤B')(hM:M≤M'):g_ H C CG x tr W S s' B' M':=by
 subst h;obtain⟨dx,g,dk,km,S1,D⟩:=G;exact⟨dx,g,dk,km,S1,D.ob,D.gr.iff (fun _ _=>Iff.rfl) hB,D.hk,D.mv,by have:=D.len;lia,D.sS,D.AH,D.nx,D.ng,D.nt⟩
section
variable{H H':Hp}{C CG x tr dx g dk:Addr}{W:Int}{S S1 KS:Addr→Prop}{s:GS}{B M B':Nat}{km:List (List Key×V)}
theorem KR.Pf(D:KR H C CG x tr W S s B M dx g dk km S1){E':Pr→Pr→Prop}(u:n_ S1 H KS H')(G:jv H' CG g KS E' B'):∃S' S2,n_ S H S' H'∧KR H' C CG x tr W S' (E',s.2) B' M dx g dk km S2:=by
 have s1:∀a,S1 a→S a:=fun a h=>(D.sS a).mpr (.inl h)
 have WR:∀a,S1 a→NT H a:=fun a h=>D.nt a (s1 a h)
 have T:=u.cw WR;have DB:=u.keep dk _ D.AH D.hk;obtain⟨dg,dl,dm,kl,GU,ld,mm,og,_⟩:=id D.gr;have gone:∀{a o},¬S a→H a=some o→a≠dk→¬((KS a∧NT H' a)∨a=dk):=fun{a o} h1 h2 h3 z=>by
  rcases z with z|z
  ·exact u.out (fun y=>h1 (s1 _ y)) h2 z.1
  ·exact h3 z
 have Z7:S dk:=(D.sS dk).mpr (.inr rfl);refine⟨fun a=>(KS a∧NT H' a)∨a=dk,fun a=>KS a∧NT H' a,⟨fun a h=>?_,fun a o h e=>u.keep a o (fun z=>h (s1 a z)) e⟩,⟨u.keep x _ (fun z=>D.nx (s1 _ z)) D.ob,G.nt,DB,fun c=>(D.mv c).cw T,D.len,fun a=>Iff.rfl,fun z=>u.out D.AH D.hk z.1,gone D.nx D.ob (fun z=>D.nx (by rw[z];exact Z7)),gone D.ng og (fun z=>D.ng (by rw[z];exact Z7)),fun a h=>?_⟩⟩
 ·rcases h with h|h
  ·exact(u.grow a h.1).imp (s1 a) id
  ·exact .inl (by rw[h];exact Z7)
 ·rcases h with h|h
  ·exact h.2
  ·exact⟨_,by rw[h];exact DB,fun v=>(Zx)⟩
theorem KR.put(D:KR H C CG x tr W S s B M dx g dk km S1){c r:Pr}{t:Addr}(ht:H t=some (.tup (jW r))):n_ S H S (upd H dk (.dT (putK km (a8 c) (.ref t))))∧KR (upd H dk (.dT (putK km (a8 c) (.ref t)))) C CG x tr W S (s.1,fun y=>if y=c then some r else s.2 y) B (M+1) dx g dk (putK km (a8 c) (.ref t)) S1:=by
 have Z7:S dk:=(D.sS dk).mpr (.inr rfl);have nx:x≠dk:=fun z=>D.nx (by rw[z];exact Z7)
 have ng:g≠dk:=fun z=>D.ng (by rw[z];exact Z7)
 have T:dR H (upd H dk (.dT (putK km (a8 c) (.ref t)))):=fun b v hb=>by
  rw[ai (fun z=>by rw[z,D.hk]at hb;cases hb)];exact hb
 refine⟨.put Z7,⟨by rw[ai nx];exact D.ob,D.gr.keep (fun a o h e=>by rw[ai (fun z=>D.AH (by rw[←z];exact h))];exact e) T (fun o e=>by rw[ai ng];exact e),ae,fun y=>?_,Nat.le_trans (fG _ _ _) (by have:=D.len;lia),D.sS,D.AH,D.nx,D.ng,fun a h=>?_⟩⟩
 ·show KI _ _ (if y=c then some r else s.2 y);rw[jE];by_cases e:y=c
  ·rw[Zi (by rw[e]),Zi e];exact⟨t,rfl,T _ _ ht⟩
  ·rw[Ze (fun z=>e (dj z)),Ze e];exact(D.mv y).cw T
 ·by_cases e:a=dk
  ·exact⟨_,by rw[e];exact ae,fun v=>(Zx)⟩
  ·obtain⟨o,h1,h2⟩:=D.nt a h;exact⟨o,by rw[ai e];exact h1,h2⟩
end
structure Base(H0 H:Hp)(S:Addr→Prop):Prop where
 same:ar H0 H
 free:∀a,S a→H0 a=none
theorem Base.ups{H0 H H':Hp}{S S':Addr→Prop}(b:Base H0 H S)(u:n_ S H S' H'):Base H0 H' S':=by
 refine⟨fun a o h=>u.keep a o (fun z=>by rw[b.free a z]at h;cases h) (b.same a o h),fun a h=>?_⟩;rcases u.grow a h with z|z
 ·exact b.free a z
 ·exact b.same.free z
theorem Base.more{H0 H H':Hp}{S:Addr→Prop}(b:Base H0 H S)(s:ar H H'):Base H0 H' S:=⟨b.same.trans s,b.free⟩
inductive pX(C CG:Addr)(vs:List V)(H:Hp)(Q:VK)(u3:XK):Prop
 |mk (x dx tr:Addr) (W:Int) (_:vs=[.ref x, .ref tr, .int W]) (_:H x=some (.ins C dx [])) (_:∀H' S,SameBut x H H'→(∀a,S a→H a=none)→g_ H' C CG x tr W S (fun _ _=>False,fun _=>none) 0 0→Q .cn H'):pX C CG vs H Q u3
inductive sG(C CG:Addr)(vs:List V)(H:Hp)(Q:VK)(u3:XK):Prop
 |mk (x tc tp tr:Addr) (W:Int) (c r:Pr) (S:Addr→Prop) (s:GS) (B M:Nat) (_:vs=[.ref x, .ref tc, .ref tp]) (_:g_ H C CG x tr W S s B M) (_:H tc=some (.tup (jW c))) (_:H tp=some (.tup (jW r))) (_:s.1 r r) (_:∀r0,s.2 c=some r0→s.1 r0 r0) (_:B≤10000) (_:M≤10000) (_:∀H' S',n_ S H S' H'→g_ H' C CG x tr W S' (xN s c r) B (M+1)→Q .cn H'):sG C CG vs H Q u3
inductive sJ(C CG CT:Addr)(vs:List V)(H:Hp)(Q:VK)(u3:XK):Prop
 |mk (x tc tp tr dt e b:Addr) (es bs:List Addr) (f:Nat→Nat→Option Int) (o p:Int) (n m:Nat) (W:Int) (i j:Nat) (r:Pr) (S:Addr→Prop) (s:GS) (B M:Nat) (H0:Hp) (_:vs=[.ref x, .ref tc, .ref tp]) (_:g_ H C CG x tr W S s B M) (_:pU H0 CT tr dt e b es bs f o p n m) (_:Base H0 H S) (_:H tc=some (.tup (jW (aO (i+1,j+1))))) (_:H tp=some (.tup (jW (aO (i,j))))) (_:i<n) (_:j<m) (_:d7 f o p W) (_:g9 f o p W s) (_:s.2 (aO (i+1,j+1))=some r) (_:B<10000) (_:M+2≤10000)
  (_:∀H' S',n_ S H S' H'→g_ H' C CG x tr W S' (KN f o p i j s r) (B+1) (M+2)→Q .cn H'):sJ C CG CT vs H Q u3
inductive pY(C CG CT:Addr)(vs:List V)(H:Hp)(Q:VK)(u3:XK):Prop
 |mk (x tr dt e b:Addr) (es bs:List Addr) (f:Nat→Nat→Option Int) (o p:Int) (n m:Nat) (W:Int) (i j:Nat) (S:Addr→Prop) (s:GS) (B M:Nat) (H0:Hp) (_:vs=[.ref x, .int i, .int j]) (_:g_ H C CG x tr W S s B M) (_:pU H0 CT tr dt e b es bs f o p n m) (_:Base H0 H S) (_:i<n) (_:j<m) (_:n≤1000) (_:m≤1000) (_:d7 f o p W) (_:g9 f o p W s) (_:B+2≤10000) (_:M+3≤10000)
  (_:∀H' S',n_ S H S' H'→g_ H' C CG x tr W S' (yu f o p W i j s) (B+2) (M+3)→Q .cn H'):pY C CG CT vs H Q u3
inductive ZH(CT:Addr)(vs:List V)(H:Hp)(Q:VK)(u3:XK):Prop
 |mk (tr dt e b:Addr) (es bs:List Addr) (f:Nat→Nat→Option Int) (o p:Int) (n m:Nat) (W:Int) (_:vs=[.ref tr, .int W]) (_:pU H CT tr dt e b es bs f o p n m) (_:Ce f n m) (_:n*m≤3000) (_:n≤1000) (_:m≤1000) (_:d7 f o p W)
  (_:∀H' r us gs,ar H H'→H r=none→H' r=some (.lst us)→fT H' us gs→(∀(k:Nat) a,us[k]?=some (.ref a)→H a=none)→Told (fU f o p W) gs→Q (.ref r) H'):ZH CT vs H Q u3
structure Fd where
 worth:Int
 way:List Pr
 row:List Int
 pairs:List Pr
def xO(g:Pr→Option Int)(o p:Int)(ps:List Pr):List Int:=(List.range ps.length).map fun k=>vl g o p (ps.take (k+1))
theorem EG(g:Pr→Option Int)(o p:Int)(ps:List Pr)(q:Pr):xO g o p (ps++[q])=xO g o p ps++[vl g o p (ps++[q])]:=by
 unfold xO;rw[List.length_append,List.length_singleton,List.range_succ,List.map_append]
 congr 1
 ·apply List.map_congr_left;intro k hk;have:k<ps.length:=by simpa using hk
  rw[List.take_append_of_le_length Zq]
 ·simp;rw[List.take_of_length_le Zr]
structure NL(f:Nat→Nat→Option Int)(o p W:Int)(d:Fd):Prop where
 worth:d.worth=W
 way:BW f o p W d.way
 row:d.row=xO (lf f) o p d.way
 sub:∀q∈d.way,q∈d.pairs
def jN(f:Nat→Nat→Option Int)(ps:List Pr):Nat→Nat→Option Int:=fun i j=>if aO (i,j)∈ps then none else f i j
def Stop(f:Nat→Nat→Option Int)(o p least:Int):Prop:=∀ps,Wy (lf f) ps→vl (lf f) o p ps<least
structure j_(f:Nat→Nat→Option Int)(o p least W:Int)(gs:List (List Pr))(ds:List Fd):Prop where
 top:d7 f o p W
 ex:∃ps,BW f o p W ps
 least:least≤W
 told:Told (fU f o p W) gs
 Fo:ds.map Fd.pairs=gs
 ok:∀d∈ds,NL f o p W d
inductive Reach(f0:Nat→Nat→Option Int)(o p least:Int):List Fd→(Nat→Nat→Option Int)→Prop
 |start:Reach f0 o p least [] f0
 |round {done:List Fd} {f:Nat→Nat→Option Int} {W:Int} {gs:List (List Pr)} {ds:List Fd} (_:Reach f0 o p least done f) (_:j_ f o p least W gs ds):Reach f0 o p least (done++ds) (jN f gs.flatten)
theorem EH{f:Nat→Nat→Option Int}{n m:Nat}(t:Ce f n m)(ps:List Pr):Ce (jN f ps) n m:=fun i j h=>t i j (by
 unfold jN at h;split at h
 ·cases h
 ·exact h)
theorem Reach.RO{f0 f:Nat→Nat→Option Int}{o p least:Int}{ds:List Fd}{n m:Nat}(t:Ce f0 n m)(r:Reach f0 o p least ds f):Ce f n m:=by
 induction r with
 |start=>exact t
 |round _ _ ih=>exact EH ih _
theorem lV(f:Nat→Nat→Option Int)(ps:List Pr)(q:Pr):lf (jN f ps) q=if q∈ps then none else lf f q:=by
 unfold lf jN;by_cases h:0≤q.1∧0≤q.2
 ·rw[Zi h,Zi h];have:aO (q.1.toNat,q.2.toNat)=q:=Prod.ext (by simp[aO];lia) (by simp[aO];lia);rw[this]
 ·rw[Ze h,Ze h];split<;>rfl
theorem fU.open{f:Nat→Nat→Option Int}{o p W:Int}{a b:Pr}(h:fU f o p W a b):(lf f a).isSome=true:=by
 obtain⟨ps,⟨w,_⟩,hm⟩:=h.on;exact w.ok a hm
theorem Told.mem{E:Pr→Pr→Prop}{gs:List (List Pr)}(t:Told E gs){ps:List Pr}(h:ps∈gs){a:Pr}(ha:a∈ps):E a a:=(t.cls ps h a ha a).mp ha
structure Apart(f0 f:Nat→Nat→Option Int)(ds:List Fd):Prop where
 sub:∀q,(lf f q).isSome=true→lf f q=lf f0 q
 shut:∀d∈ds,∀q∈d.pairs,lf f q=none∧(lf f0 q).isSome=true
 ap:ds.Pairwise fun a b=>∀q∈a.pairs,q∉b.pairs
 tQ:∀d∈ds,d.pairs.Pairwise (fun p q=>h_ p q=true)∧d.pairs≠[]
 gone:∀q,lf f q=none→(lf f0 q).isSome=true→∃d∈ds,q∈d.pairs
theorem Reach.apart{f0 f:Nat→Nat→Option Int}{o p least:Int}{ds:List Fd}(r:Reach f0 o p least ds f):Apart f0 f ds:=by
 induction r with
 |start=>exact⟨fun _ _=>rfl,fun d h=>(by cases h), .nil,fun d h=>(by cases h),fun q h1 h2=>by rw[h1]at h2;cases h2⟩
 |@round done f W gs ds r R ih=>
  have mem:∀d∈ds,d.pairs∈gs:=fun d h=>by rw[←R.Fo];exact List.mem_map.mpr ⟨d,h,rfl⟩
  have op:∀d∈ds,∀q∈d.pairs,(lf f q).isSome=true:=fun d h q hq=>(R.told.mem (mem d h) hq).open
  refine⟨fun q h=>?_,fun d h q hq=>?_,?_,fun d h=>?_,fun q h1 h2=>?_⟩
  ·rw[lV]at h⊢;split at h
   ·cases h
   ·rename_i hn
    rw[Ze hn];exact ih.sub q h
  ·rw[lV];rcases List.mem_append.mp h with h|h
   ·obtain⟨h1,h2⟩:=ih.shut d h q hq;exact⟨by split;rfl;exact h1,h2⟩
   ·rw[Zi (List.mem_flatten.mpr ⟨_,mem d h,hq⟩)];have:=op d h q hq;exact⟨rfl,by rw[←ih.sub q this];exact this⟩
  ·refine List.pairwise_append.mpr ⟨ih.ap,?_,fun a ha b hb q hq RM=>?_⟩
   ·have:=R.told.apart;rw[←R.Fo,List.pairwise_map]at this;exact this
   ·have h1:=(ih.shut a ha q hq).1;have h2:=op b hb q RM;rw[h1]at h2;cases h2
  ·rcases List.mem_append.mp h with h|h
   ·exact ih.tQ d h
   ·exact⟨R.told.tQ _ (mem d h),R.told.ne _ (mem d h)⟩
  ·rw[lV]at h1;by_cases hm:q∈gs.flatten
   ·obtain⟨ps,BH,hq⟩:=List.mem_flatten.mp hm;rw[←R.Fo]at BH;obtain⟨d,hd,rfl⟩:=List.mem_map.mp BH;exact⟨d,List.mem_append_right _ hd,hq⟩
   ·rw[Ze hm]at h1;obtain⟨d,hd,hq⟩:=ih.gone q h1 h2;exact⟨d,List.mem_append_left _ hd,hq⟩
theorem sL(f:Nat→Nat→Option Int)(o p:Int):∀i j v,Bq f o p i j=some v→∃e,cZ f o p (cD f o p i j).1 (cD f o p i j).2=some e∧v=e-(o*((i:Int)-1-(cD f o p i j).1)+p*((j:Int)-1-(cD f o p i j).2))
 |0,j,v,h=>by rw[iy]at h;cases h
 |i+1,0,v,h=>by unfold Bq at h;cases h
 |i+1,j+1,v,hB=>by
  unfold cD;by_cases h1:cZ f o p i j=Bq f o p (i+1) (j+1)
  ·rw[Zi h1];refine⟨v,by rw[h1,hB],?_⟩;have e1:((i+1:Nat):Int)-1-((i,j).1:Int)=0:=by show((i+1:Nat):Int)-1-(i:Int)=0;lia
   have e2:((j+1:Nat):Int)-1-((i,j).2:Int)=0:=by show((j+1:Nat):Int)-1-(j:Int)=0;lia
   rw[e1,e2,Int.mul_zero,Int.mul_zero];lia
  ·rw[Ze h1];by_cases h2:bx (Bq f o p i (j+1)) o=Bq f o p (i+1) (j+1)
   ·rw[Zi h2];cases e:Bq f o p i (j+1)with
    |none=>rw[e,hB]at h2;cases h2
    |some v2=>
     rw[e,hB]at h2;have h2:v2-o=v:=by simpa[bx]using h2
     obtain⟨x,hx,hv⟩:=sL f o p i (j+1) v2 e;refine⟨x,hx,?_⟩;have e1:((i+1:Nat):Int)-1-((cD f o p i (j+1)).1:Int)=((i:Int)-1-(cD f o p i (j+1)).1)+1:=by lia
     rw[e1,Int.mul_add]
     lia
   ·rw[Ze h2];have e0:Bq f o p (i+1) (j+1)=nY [cZ f o p i j,bx (Bq f o p i (j+1)) o,bx (Bq f o p (i+1) j) p]:=by rw[Bq];rfl
    have key:∀a b c:Option Int,nY [a,b,c]≠a→nY [a,b,c]≠b→c=nY [a,b,c]:=fun a b c=>by
     cases a<;>cases b<;>cases c<;>simp[nY]<;>lia
    have h3:bx (Bq f o p (i+1) j) p=Bq f o p (i+1) (j+1):=by
     rw[e0];exact key _ _ _ (fun z=>h1 (by rw[e0];exact z.symm)) (fun z=>h2 (by rw[e0];exact z.symm))
    cases e:Bq f o p (i+1) j with
    |none=>rw[e,hB]at h3;cases h3
    |some v2=>
     rw[e,hB]at h3;have h3:v2-p=v:=by simpa[bx]using h3
     obtain⟨x,hx,hv⟩:=sL f o p (i+1) j v2 e;refine⟨x,hx,?_⟩;have e1:((j+1:Nat):Int)-1-((cD f o p (i+1) j).2:Int)=((j:Int)-1-(cD f o p (i+1) j).2)+1:=by lia
     rw[e1,Int.mul_add]
     lia
termination_by i j=>(i,j)
theorem GV(f:Nat→Nat→Option Int)(o p:Int):∀(k i j:Nat)(v:Int),i≤k→cZ f o p i j=some v→Wy (lf f) ((dY f o p i i j).map aO)∧lstP ((dY f o p i i j).map aO)=aO (i,j)∧vl (lf f) o p ((dY f o p i i j).map aO)=v∧(dY f o p i i j).map (fun q=>cZ f o p q.1 q.2)=(xO (lf f) o p ((dY f o p i i j).map aO)).map some:=by
 intro k
 induction k with
 |zero=>
  intro i j v hi he;have:i=0:=by lia
  subst this;rw[gG (fun h=>by rw[iy]at h;cases h)];have hw:f 0 j=some v:=by
   unfold cZ at he;rw[iy]at he;cases e:f 0 j with
   |none=>rw[e]at he;cases he
   |some w=>rw[e]at he;exact he
  have hl:lf f (aO (0,j))=some v:=by rw[←hw];exact pQ f 0 j
  refine⟨.one (by rw[hl];rfl),rfl,by simp[vl,hl],?_⟩;simp[xO,vl,hl,he]
 |succ k ih=>
  intro i j v hi he;by_cases hg:gA (Bq f o p i j)=true
  ·obtain⟨a1,a2,a3⟩:=jL hg;obtain⟨l1,l2⟩:=(j9 f o p i j a1 a2).resolve_right a3;rw[uY hg,List.map_append,List.map_append];cases eb:Bq f o p i j with
   |none=>exact absurd eb a3
   |some b=>
    obtain⟨x,hx,hb⟩:=sL f o p i j b eb;obtain⟨w1,w2,w3,w4⟩:=ih _ _ x (by lia) hx;have YB:0≤b:=by rw[eb]at hg;simpa[gA]using hg
    have hw:∃w,f i j=some w∧v=w+b:=by
     unfold cZ at he;rw[eb]at he;cases e:f i j with
     |none=>rw[e]at he;cases he
     |some w=>
      rw[e]at he;simp only[Gy,show ¬b<0 by lia,if_false,Option.some.injEq]at he;exact⟨w,rfl,by lia⟩
    obtain⟨w,hw,hv⟩:=hw;have hl:lf f (aO (i,j))=some w:=by rw[←hw];exact pQ f i j
    have st:wR (lstP ((dY f o p (cD f o p i j).1 (cD f o p i j).1 (cD f o p i j).2).map aO)) (aO (i,j)):=by
     rw[w2];exact⟨by simp[aO];lia,by simp[aO];lia⟩
    have ev:vl (lf f) o p ((dY f o p (cD f o p i j).1 (cD f o p i j).1 (cD f o p i j).2).map aO++[aO (i,j)])=v:=by
     rw[rz _ _ _ w1.ne,w2,w3,hl];simp only[gp,Option.getD_some];have e1:(aO (i,j)).1-(aO ((cD f o p i j).1,(cD f o p i j).2)).1-1=(i:Int)-1-(cD f o p i j).1:=by show(i:Int)-((cD f o p i j).1:Int)-1=_;lia
     have e2:(aO (i,j)).2-(aO ((cD f o p i j).1,(cD f o p i j).2)).2-1=(j:Int)-1-(cD f o p i j).2:=by show(j:Int)-((cD f o p i j).2:Int)-1=_;lia
     rw[e1,e2]
     lia
    refine⟨w1.snoc (by rw[hl];rfl) st,dU,ev,?_⟩;show _++[cZ f o p i j]=(xO (lf f) o p (_++[aO (i,j)])).map some;rw[EG,List.map_append,w4,he];show _++[some v]=_++[some _];rw[ev]
  ·rw[gG hg];have hw:f i j=some v:=by
    unfold cZ at he;cases e:f i j with
    |none=>rw[e]at he;cases he
    |some w=>
     rw[e]at he;cases eb:Bq f o p i j with
     |none=>rw[eb]at he;exact he
     |some b=>
      rw[eb]at he hg;have:b<0:=by
       have:¬0≤b:=fun z=>hg (by simpa[gA]using z)
       lia
      simp only[Gy,this,if_true]at he;exact he
   have hl:lf f (aO (i,j))=some v:=by rw[←hw];exact pQ f i j
   refine⟨.one (by rw[hl];rfl),rfl,by simp[vl,hl],?_⟩;simp[xO,vl,hl,he]
def GW(f:Nat→Nat→Option Int)(o p:Int)(n m:Nat):Option Int:=nY ((List.range n).map fun i=>nY ((List.range m).map (cZ f o p i)))
theorem EI{f:Nat→Nat→Option Int}{n m:Nat}(t:Ce f n m)(o p:Int):fH (fun v=>∃ps,Wy (lf f) ps∧v=vl (lf f) o p ps) (GW f o p n m):=by
 refine(j7 _).TN (fun v hv=>?_) (fun v hv=>?_)
 ·obtain⟨i,_,h2⟩:=List.mem_map.mp hv;have h3:=j7 ((List.range m).map (cZ f o p i));rw[h2]at h3;obtain⟨j,_,h4⟩:=List.mem_map.mp h3.1;obtain⟨as,a1,_,a3⟩:=lT h4;exact⟨as,a1,a3.symm⟩
 ·obtain⟨ps,w,rfl⟩:=hv;obtain⟨i,j,hl,hi,hj⟩:=jw t w (cU w.ne);obtain⟨b,hb,hle⟩:=vU (o:=o) (p:=p) w hl;have h3:=j7 ((List.range m).map (cZ f o p i));have pz:some b∈(List.range m).map (cZ f o p i):=List.mem_map.mpr ⟨j,by simpa using hj,hb⟩;cases e:nY ((List.range m).map (cZ f o p i))with
  |none=>rw[e]at h3;exact absurd pz (h3 b)
  |some u=>
   rw[e]at h3;refine⟨u,List.mem_map.mpr ⟨i,by simpa using hi,e⟩,?_⟩;have:=h3.2 b pz
   lia
theorem BQ{f:Nat→Nat→Option Int}{o p W:Int}(T:d7 f o p W){n m:Nat}(t:Ce f n m){a b:Pr}(h:fU f o p W a b):∃i j:Nat,cZ f o p i j=some W∧i<n∧j<m∧fU f o p W a (aO (i,j)):=by
 obtain⟨ps,w,hm⟩:=h.on;obtain⟨i,j,hl,hi,hj⟩:=jw t w.1 (cU w.1.ne);obtain⟨v,hb,hle⟩:=vU (o:=o) (p:=p) w.1 hl;obtain⟨as,a1,_,a3⟩:=lT hb;have:=T _ a1;have hW:=w.2;refine⟨i,j,by rw[hb];congr 1;lia,hi,hj, .way ps w hm ?_⟩;rw[←hl];exact cU w.1.ne
def EJ(n m:Nat):List Pr:=(List.range n).flatMap fun i=>(List.range m).map fun j=>aO (i,j)
theorem xP(n m:Nat):(EJ n m).length=n*m:=by
 unfold EJ
 induction n with
 |zero=>simp
 |succ n ih=>
  rw[List.range_succ,List.flatMap_append,List.length_append,ih,Nat.succ_mul];simp
theorem xQ{n m i j:Nat}(hi:i<n)(hj:j<m):aO (i,j)∈EJ n m:=List.mem_flatMap.mpr ⟨i,by simpa using hi,List.mem_map.mpr ⟨j,by simpa using hj,rfl⟩⟩
theorem Told.Bk{E:Pr→Pr→Prop}{gs:List (List Pr)}{n m:Nat}(t:Told E gs)(h:∀g∈gs,∀a∈g,∃i j:Nat,a=aO (i,j)∧i<n∧j<m):gs.length≤n*m:=by
 have hf:∀g∈gs,bY g∈g:=fun g hg=>by
  cases e:g with
  |nil=>exact absurd e (t.ne g hg)
  |cons a r=>simp[bY]
 have:=len_sub (gs.map bY) (EJ n m) (List.pairwise_map.mpr (List.Pairwise.imp_of_mem (fun{a b} ha hb Et e=>Et (bY a) (hf a ha) (by rw[e];exact hf b hb)) t.apart)) fun x hx=>by
  obtain⟨g,hg,rfl⟩:=List.mem_map.mp hx;obtain⟨i,j,e,hi,hj⟩:=h g hg _ (hf g hg);rw[e];exact xQ hi hj
 rw[List.length_map,xP]at this;exact this
structure xR(P:Addr→Prop)(H:Hp)(CF a:Addr)(d:Fd)(dy wy rw pr:Addr)(kL iP:List V):Prop where
 ob:H a=some (.ins CF dy (mF d.worth wy rw pr))
 hw:H wy=some (.lst kL)
 pw:fO H kL d.way
 hr:H rw=some (.lst (d.row.map V.int))
 hp:H pr=some (.lst iP)
 pp:fO H iP d.pairs
 fa:P a
 fw:P wy
 fr:P rw
 fp:P pr
def cA(P:Addr→Prop)(H:Hp)(CF:Addr)(us:List V)(ds:List Fd):Prop:=us.length=ds.length∧∀(k:Nat) d,ds[k]?=some d→∃a dy wy rw pr kL iP,us[k]?=some (V.ref a)∧xR P H CF a d dy wy rw pr kL iP
theorem xR.keep{P P':Addr→Prop}{H H':Hp}{CF a:Addr}{d:Fd}{dy wy rw pr:Addr}{kL iP:List V}(F:xR P H CF a d dy wy rw pr kL iP)(h:∀b o,P b→H b=some o→H' b=some o)(t:dR H H')(hP:∀b,P b→P' b):xR P' H' CF a d dy wy rw pr kL iP:=
 ⟨h _ _ F.fa F.ob,h _ _ F.fw F.hw,F.pw.cw t,h _ _ F.fr F.hr,h _ _ F.fp F.hp,F.pp.cw t,hP _ F.fa,hP _ F.fw,hP _ F.fr,hP _ F.fp⟩
theorem cA.keep{P P':Addr→Prop}{H H':Hp}{CF:Addr}{us:List V}{ds:List Fd}(F:cA P H CF us ds)(h:∀b o,P b→H b=some o→H' b=some o)(t:dR H H')(hP:∀b,P b→P' b):cA P' H' CF us ds:=
 ⟨F.1,fun k d e=>let ⟨a,dy,wy,rw,pr,kL,iP,h1,h2⟩:=F.2 k d e;⟨a,dy,wy,rw,pr,kL,iP,h1,h2.keep h t hP⟩⟩
theorem cA.nil{P:Addr→Prop}{H:Hp}{CF:Addr}:cA P H CF [] []:=⟨rfl,fun k d e=>by simp at e⟩
theorem cA.append{P:Addr→Prop}{H:Hp}{CF:Addr}{us vs:List V}{ds es:List Fd}(F:cA P H CF us ds)(G:cA P H CF vs es):cA P H CF (us++vs) (ds++es):=by
 refine⟨by rw[List.length_append,List.length_append,F.1,G.1],fun k d e=>?_⟩;by_cases hk:k<ds.length
 ·rw[List.getElem?_append_left hk]at e;rw[List.getElem?_append_left (by rw[F.1];exact hk)];exact F.2 k d e
 ·rw[List.getElem?_append_right Zq]at e;rw[List.getElem?_append_right (by rw[F.1];lia),F.1];exact G.2 _ d e
inductive sM(CT:Addr)(vs:List V)(H:Hp)(Q:VK)(u3:XK):Prop
 |mk (f g t:Addr) (v:V) (c:Case) (shut:List Pr) (_:vs=[.ref f, .ref g, .ref t,v]) (_:H f=some (.lst (c.xs.map V.str))) (_:H g=some (.lst (c.ys.map V.str))) (_:yW H CT t c) (_:DG H v shut) (_:shut.length≤1000) (_:c.xs.length≤1000) (_:c.ys.length≤1000) (_:∀H' e as,ar H H'→H' e=some (.lst (as.map V.ref))→H e=none→iN H' as (mf c shut) c.xs.length c.ys.length→as.Nodup→e∉as→(∀a∈as,H a=none)→Q (.ref e) H'):sM CT vs H Q u3
inductive oh(CT CF:Addr)(vs:List V)(H:Hp)(Q:VK)(u3:XK):Prop
 |mk (w t:Addr) (as:List Addr) (c:Case) (f:Nat→Nat→Option Int) (n m:Nat) (_:vs=[.ref w, .ref t]) (_:H w=some (.lst (as.map V.ref))) (_:iN H as f n m) (_:yW H CT t c) (_:Ce f n m) (_:n*m≤3000) (_:n≤1000) (_:m≤1000)
  (_:Stop f c.out c.into c.least→∀H' r,ar H H'→H r=none→H' r=some (.lst [])→Q (.ref r) H')
  (_:∀W gs ds,j_ f c.out c.into c.least W gs ds→gs≠[]→∀H' r us,ar H H'→H r=none→H' r=some (.lst us)→cA (fun b=>H b=none) H' CF us ds→Q (.ref r) H'):oh CT CF vs H Q u3
inductive sN(CF:Addr)(vs:List V)(H:Hp)(Q:VK)(u3:XK):Prop
 |mk (w md:Addr) (as:List Addr) (us:List V) (ds:List Fd) (f:Nat→Nat→Option Int) (n m:Nat) (_:vs=[.ref w, .ref md]) (_:H w=some (.lst (as.map V.ref))) (_:as.Nodup) (_:w∉as) (_:iN H as f n m) (_:H md=some (.lst us)) (_:md∉as) (_:cA (fun b=>b∉as) H CF us ds) (_:∀d∈ds,∀q∈d.pairs,∃i j:Nat,q=aO (i,j)∧i<n∧j<m)
  (_:∀H',(∀b o,b∉as→H b=some o→H' b=some o)→dR H H'→iN H' as (jN f (ds.map Fd.pairs).flatten) n m→Q .cn H'):sN CF vs H Q u3
def NM(a b:Fd):Bool:=if a.worth=b.worth then h_ (bY a.pairs) (bY b.pairs)else decide (b.worth<a.worth)
structure pZ(f0:Nat→Nat→Option Int)(o p least:Int)(es:List Fd):Prop where
 Ul:∃ds f,Reach f0 o p least ds f∧Stop f o p least∧es.Perm ds
 Bk:es.length≤20
 tQ:es.Pairwise fun a b=>NM a b=true
inductive vV(CT CF CX:Addr)(vs:List V)(H:Hp)(Q:VK)(E:XK):Prop
 |mk (a b t:Addr) (c:Case) (_:vs=[.ref a, .ref b, .ref t]) (_:H a=some (.lst (c.xs.map V.str))) (_:H b=some (.lst (c.ys.map V.str))) (_:yW H CT t c) (_:c.xs.length≤50) (_:c.ys.length≤50)
  (_:∀es,pZ (mf c []) c.out c.into c.least es→∀H' r us,ar H H'→H r=none→H' r=some (.lst us)→cA (fun b=>H b=none) H' CF us es→Q (.ref r) H')
  (_:∀ds f,Reach (mf c []) c.out c.into c.least ds f→20<ds.length→∀H',ar H H'→E (.ref CX) none H'):vV CT CF CX vs H Q E
theorem lg{g g':Pr→Option Int}(o p:Int):∀{ps:List Pr},(∀q∈ps,g q=g' q)→vl g o p ps=vl g' o p ps
 |[],_=>rfl
 |[a],h=>by simp only[vl];rw[h a (Zx)]
 |a::b::r,h=>by
  have ih:=lg (g:=g) (g':=g') o p (ps:=b::r) fun q hq=>h q (by simp[hq])
  simp only[vl];rw[ih,h a (Zx)]
theorem BR{g g':Pr→Option Int}(o p:Int){ps:List Pr}(h:∀q∈ps,g q=g' q):xO g o p ps=xO g' o p ps:=by
 unfold xO;apply List.map_congr_left;intro k _;exact lg o p fun q hq=>h q (List.mem_of_mem_take hq)
theorem Wy.congr{g g':Pr→Option Int}{ps:List Pr}(w:Wy g ps)(h:∀q∈ps,g q=g' q):Wy g' ps:=⟨w.ne,fun q hq=>by rw[←h q hq];exact w.ok q hq,w.up⟩
theorem KU{o p:Int}(ho:0≤o)(hp:0≤p){a b:Pr}(s:wR a b):0≤gp o p a b:=by
 have h1:=s.1;have h2:=s.2;have:=Int.mul_nonneg ho (show 0≤b.1-a.1-1 by lia);have:=Int.mul_nonneg hp (show 0≤b.2-a.2-1 by lia);unfold gp
 lia
theorem Iq{g:Pr→Option Int}{o p S:Int}(ho:0≤o)(hp:0≤p):∀{ps:List Pr},ps.Pairwise wR→(∀q∈ps,∃w,g q=some w∧w≤S)→vl g o p ps≤ps.length*S
 |[],_,_=>by simp[vl]
 |[a],_,h=>by
  obtain⟨w,h1,h2⟩:=h a (Zx);simp[vl,h1,h2]
 |a::b::r,hs,h=>by
  have kK:=List.pairwise_cons.mp hs;have ih:=Iq ho hp kK.2 fun q hq=>h q (by simp[hq])
  obtain⟨w,h1,h2⟩:=h a (Zx);have:=KU ho hp (kK.1 b (Zx));simp only[vl,h1,Option.getD_some];have e:((a::b::r).length:Int)*S=((b::r).length:Int)*S+S:=by
   rw[List.length_cons (as:=b::r),Int.natCast_add,Int.add_mul];simp
  rw[e]
  lia
structure NN(f0:Nat→Nat→Option Int)(o p least:Int)(d:Fd):Prop where
 way:Wy (lf f0) d.way
 worth:vl (lf f0) o p d.way=d.worth
 least:least≤d.worth
 row:d.row=xO (lf f0) o p d.way
 sub:∀q∈d.way,q∈d.pairs
 tQ:d.pairs.Pairwise fun p q=>h_ p q=true
 op:∀q∈d.pairs,(lf f0 q).isSome=true
 part:∀a b,d.way=a++b→a≠[]→b≠[]→vl (lf f0) o p a≤d.worth∧vl (lf f0) o p b≤d.worth
theorem Reach.BS{f0 f:Nat→Nat→Option Int}{o p least:Int}{ds:List Fd}(r:Reach f0 o p least ds f):∀d∈ds,NN f0 o p least d:=by
 induction r with
 |start=>exact fun d h=>by cases h
 |@round done f W gs ds r R ih=>
  intro d hd;rcases List.mem_append.mp hd with hd|hd
  ·exact ih d hd
  have ap:=r.apart;have k:=R.ok d hd;have hg:d.pairs∈gs:=by rw[←R.Fo];exact List.mem_map.mpr ⟨d,hd,rfl⟩
  have cg:∀q∈d.way,lf f q=lf f0 q:=fun q hq=>ap.sub q (k.way.1.ok q hq)
  refine⟨k.way.1.congr cg,?_,by rw[k.worth];exact R.least,by rw[k.row];exact BR o p cg,k.sub,R.told.tQ _ hg,fun q hq=>?_,fun a b e ha hb=>?_⟩
  ·rw[←lg o p cg,k.way.2,k.worth]
  ·have:=(R.told.mem hg hq).open;rw[←ap.sub q this];exact this
  ·have w:=k.way.1;rw[e]at w;rw[←lg o p (fun q hq=>cg q (by rw[e];exact List.mem_append_left _ hq)),←lg o p (fun q hq=>cg q (by rw[e];exact List.mem_append_right _ hq)),k.worth];exact⟨R.top _ (w.left ha),R.top _ (w.right hb)⟩
theorem pZ.BS{f0:Nat→Nat→Option Int}{o p least:Int}{es:List Fd}(t:pZ f0 o p least es):∀d∈es,NN f0 o p least d:=fun d hd=>by
 obtain⟨ds,f,r,_,pm⟩:=t.Ul;exact r.BS d (pm.mem_iff.mp hd)
theorem KW(c:Case)(q:Pr):lf (mf c []) q=c.pw q:=by
 rw[J0];simp[JZ]
end QF
namespace QF
open PySem L2 PySem.Spec PyProof.Rows PySem.W PySem.Calls
section
variable{X:Cx}
open Classical in
end
end QF
namespace QF
open PySem L2
end QF
namespace L2
open PySem PySem.Spec PyProof.Rows PySem.W PySem.Calls
inductive gO(K:Frag)(x q:Str)(st:Stmt)(f:Addr):Prop
 |mk {oc kV dc pm cd ct:Value} {od an:Option Addr} {sl:Array (Option Value)} (l:K.lookup f=some ⟨oc,od, .func (fnOf x q (fo st) (dZ st) (ao st) .none kV dc pm an cd ct),sl⟩) (c:codeIn K cd q=true) (k:keepIn K (.ref f)=true):gO K x q st f
theorem Cn{Φ:Value→Value→Value→Option Addr→Value→Value→List Value→Prop}(h:∀k d p n c t a,Φ k d p n c t [a])(k d p:Value)(n:Option Addr)(c t:Value)(us:List Value)(e:us.length=1):Φ k d p n c t us:=QF.Wa (h k d p n c t) us e
theorem AM{Φ:Value→Value→Value→Option Addr→Value→Value→List Value→Prop}(h:∀k d p n c t a b,Φ k d p n c t [a,b])(k d p:Value)(n:Option Addr)(c t:Value)(us:List Value)(e:us.length=2):Φ k d p n c t us:=QF.Wb (h k d p n c t) us e
theorem AN{Φ:Value→Value→Value→Option Addr→Value→Value→List Value→Prop}(h:∀k d p n c t x y z,Φ k d p n c t [x,y,z])(k d p:Value)(n:Option Addr)(c t:Value)(us:List Value)(e:us.length=3):Φ k d p n c t us:=QF.Wc (h k d p n c t) us e
theorem RP{Φ:Value→Value→Value→Option Addr→Value→Value→List Value→Prop}(h:∀k d p n c t x y z u,Φ k d p n c t [x,y,z,u])(k d p:Value)(n:Option Addr)(c t:Value)(us:List Value)(e:us.length=4):Φ k d p n c t us:=QF.Wd (h k d p n c t) us e
theorem WS{Φ:Value→Value→Value→Option Addr→Value→Value→List Value→Prop}(h:∀k d p n c t x y z u v,Φ k d p n c t [x,y,z,u,v])(k d p:Value)(n:Option Addr)(c t:Value)(us:List Value)(e:us.length=5):Φ k d p n c t us:=QF.We (h k d p n c t) us e
section
variable{P:Program}{w:World}{K:Frag}{mg:Str→Option Value}{base h:Heap}{cm:Bool}{k:Nat}{x q:Str}{st:Stmt}{f C:Addr}{ps:List Str}{sp:Sp}
def Pg(x q:Str)(st:Stmt)(ps:List Str):Prop:=∀(kV doc pm:Value)(an:Option Addr)(gw ct:Value)(us:List Value),us.length=ps.length→bindArgs (fnOf x q (fo st) (dZ st) (ao st) .none kV doc pm an gw ct) ⟨us,[]⟩=pure (ps.zip us)
theorem gO.df(d:gO K x q st f)(X:K.In h)(G:h.Ns mainGlobals mg)(a:nsIn K mainGlobals x=some (some (.ref f)))(ok:∀fd,lO K x q st f fd→bf P w K mg base (dD P w) cm k f fd ps sp)(b:Pg x q st ps):cK P w K mg base cm k x ps sp:=by
 obtain⟨l,c,z⟩:=d;have F:=C2 (st:=st) l c z;exact Di F (mg_of X G a) (F.binds b) (ok _ F)
theorem gO.ok(d:gO K x q st f){R:FuncData→Prop}(ok:∀fd,ig K x q st f fd→R fd)(b:Pg x q st ps):∃fd,R fd∧Binds K fd ps []:=by
 obtain⟨l,c,z⟩:=d;exact⟨_,ok _ (ZN (st:=st) l c z), .all fun us e=>b _ _ _ _ _ _ us e⟩
theorem gO.mt(d:gO K x q st f)(cl:vf K C)(a:findIn K (.ref C) x=some (some (.ref f)))(i:isFn K (.ref f)=true)(ok:∀fd,ig K x q st f fd→bf P w K mg base (dD P w) cm k f fd ps sp)(b:Pg x q st ps):dX P w K mg base cm k C x ps sp:=by
 obtain⟨fd,h1,h2⟩:=d.ok (R:=fun fd=>bf P w K mg base (dD P w) cm k f fd ps sp) ok b;obtain⟨l,c,z⟩:=d;exact Bs h1 ⟨a,i,z⟩ h2 cl
theorem gO.nw{y:Str}(d:gO K x q st f)(m:mg y=some (.ref C))(g1:makesIn K C=true)(g2:keepIn K (.ref C)=true)(a:findIn K (.ref C) "__init__"=some (some (.ref f)))(i:isFn K (.ref f)=true)(ok:∀fd,ig K x q st f fd→bf P w K mg base (dD P w) cm k f fd ps sp)(b:Pg x q st ps):mD P w K mg base cm k y C ps [] sp:=by
 obtain⟨fd,h1,h2⟩:=d.ok (R:=fun fd=>bf P w K mg base (dD P w) cm k f fd ps sp) ok b;exact xp h1 ⟨g1,a,i,g2⟩ m h2 .nil
structure xS(K:Frag)(x:Str)(C:Addr):Prop where
 a:nsIn K mainGlobals x=some (some (.ref C))
 b:excIn K C [.type "ValueError", .type "Exception", .type "BaseException", .type "object"] "ValueError.__new__"=true
 c:findIn K (.ref C) "__class__"=some (some (.builtin "object.__class__"))
 d:mroIn K C (.type "object")=some true
 e:mroIn K C (.type "BaseException")=some true
 f:findIn K (.ref C) "__getattribute__"=some (some (.builtin "BaseException.__getattribute__"))
 g:findIn K (.ref C) "__getattr__"=some none
 h:instIn K (.ref C) (.type "tuple")=some false
 i:keepIn K (.ref C)=true
theorem xS.er{x:Str}{C:Addr}(e:xS K x C)(X:K.In h)(G:h.Ns mainGlobals mg):QF.Er K mg x C:=⟨mg_of X G e.a,e.b,e.c,e.d,e.e,e.f,e.g,e.h,e.i⟩
structure NO(K:Frag)(x:Str)(C:Addr):Prop where
 a:nsIn K mainGlobals x=some (some (.ref C))
 b:makesIn K C=true
 c:keepIn K (.ref C)=true
def yw(K:Frag)(x:Str):Prop:=nsIn K mainGlobals x=some none
structure TZ(K:Frag):Prop where
 a:yw K "len"
 b:yw K "range"
 c:yw K "isinstance"
 d:yw K "int"
 e:yw K "bool"
 f:yw K "str"
 g:yw K "list"
 h:yw K "tuple"
 i:yw K "dict"
 j:yw K "all"
 k:yw K "any"
 l:yw K "min"
 m:yw K "max"
 n:yw K "enumerate"
 o:yw K "ValueError"
theorem mZ{x:Str}(z:yw K x)(X:K.In h)(G:h.Ns mainGlobals mg):mg x=none:=mg_none_of X G z
theorem TZ.tb(z:TZ K)(X:K.In h)(G:h.Ns mainGlobals mg):QF.TB mg:=⟨mZ z.a X G,mZ z.b X G,mZ z.c X G,mZ z.d X G,mZ z.e X G,mZ z.f X G,mZ z.g X G,mZ z.h X G,mZ z.i X G,mZ z.j X G,mZ z.k X G,mZ z.l X G,mZ z.m X G,mZ z.n X G,mZ z.o X G⟩
end
end L2
namespace QF
open PySem L2
inductive sO(CF:Addr)(vs:List V)(H:Hp)(Q:VK)(u3:XK):Prop
 |mk (y:Addr) (P:Addr→Prop) (d:Fd) (dy wy rw pr:Addr) (kL iP:List V) (_:vs=[.ref y]) (_:xR P H CF y d dy wy rw pr kL iP) (_:d.row.length=d.way.length) (_:d.way≠[]) (_:∀H',ar H H'→Q (.bl true) H'):sO CF vs H Q u3
theorem GX(g:Pr→Option Int)(o p:Int)(ps:List Pr):(xO g o p ps).length=ps.length:=by simp[xO]
end QF
namespace L2
open PySem PySem.Spec PyProof.Rows PySem.W PySem.Calls
open AutoSeq1 (wpAny_loadPart')
end L2
namespace QF
open PySem L2 PySem.Spec PyProof.Rows PySem.W PySem.Calls
section
variable{X:Cx}
theorem NP{pins:List (Addr×Obj)}{s:Shared}{σ:L2.St}{H:Hp}{p:Addr}{r:Pr}(I:Inv X pins σ H s)(hp:H p=some (.tup (jW r))):iz s.heap p r:=by
 obtain⟨its,rr,pl,hz⟩:=I.tuple (xs:=jW r) (.of hp);cases rr with
 |cons r1 rr=>
  cases rr with
  |cons r2 rr=>
   cases rr;obtain⟨t,rfl⟩:=r1;obtain⟨u,rfl⟩:=r2;obtain⟨o,h1,h2,n,h3⟩:=pl;exact⟨o,t,u,n,h1,h2,h3⟩
end
theorem vW{α:Type}{R:α→α→Prop}(as:∀a b,R a b→¬R b a):∀{l m:List α},l.Pairwise R→m.Pairwise R→(∀x,x∈l↔x∈m)→l=m
 |[],[],_,_,_=>rfl
 |[],b::m,_,_,h=>by have:=(h b).mpr Zr;cases this
 |a::l,[],_,_,h=>by have:=(h a).mp Zr;cases this
 |a::l,b::m,hl,hm,h=>by
  have Ir:=List.pairwise_cons.mp hl;have Bp:=List.pairwise_cons.mp hm;have e:a=b:=by
   rcases List.mem_cons.mp ((h a).mp Zr)with e|e
   ·exact e
   ·rcases List.mem_cons.mp ((h b).mpr Zr)with e2|e2
    ·exact e2.symm
    ·exact absurd (Bp.1 a e) (as _ _ (Ir.1 b e2))
  subst e
  congr 1
  refine vW as Ir.2 Bp.2 fun x=>⟨fun hx=>?_,fun hx=>?_⟩
  ·rcases List.mem_cons.mp ((h x).mp (by simp[hx]))with e|e
   ·subst e;exact absurd (Ir.1 x hx) (as _ _ (Ir.1 x hx))
   ·exact e
  ·rcases List.mem_cons.mp ((h x).mpr (by simp[hx]))with e|e
   ·subst e;exact absurd (Bp.1 x hx) (as _ _ (Bp.1 x hx))
   ·exact e
theorem EK(p q:Pr)(h:h_ p q=true):¬h_ q p=true:=fun z=>by rw[ZK h]at z;cases z
abbrev Ky:=Int×List Pr
def GY(d:Fd):Ky:=(d.worth,d.pairs)
def GZ(a b:Ky):Bool:=if a.1=b.1 then h_ (bY a.2) (bY b.2)else decide (b.1<a.1)
theorem G0(a b:Ky)(h:GZ a b=true):¬GZ b a=true:=fun z=>by
 unfold GZ at h z;by_cases e:a.1=b.1
 ·rw[Zi e]at h;rw[Zi e.symm]at z;exact EK _ _ h z
 ·rw[Ze e]at h;rw[Ze (Ne.symm e)]at z;simp at h z;lia
inductive Rn(o p least:Int):(Nat→Nat→Option Int)→List Fd→Prop
 |stop {f:Nat→Nat→Option Int} (_:Stop f o p least):Rn o p least f []
 |round {f:Nat→Nat→Option Int} {W:Int} {gs:List (List Pr)} {ds rs:List Fd} (_:j_ f o p least W gs ds) (_:Rn o p least (jN f gs.flatten) rs):Rn o p least f (ds++rs)
def tY(H:Hp)(ws:List V)(ks:List Ky):Prop:=ws.length=ks.length∧∀(i:Nat)(x:Ky),ks[i]?=some x→∃t l us,ws[i]?=some (V.ref t)∧H t=some (.tup [.int x.1, .ref l])∧H l=some (.lst us)∧fO H us x.2
inductive sP(CF:Addr)(vs:List V)(H:Hp)(Q:VK)(u3:XK):Prop
 |mk (t d:Addr) (us ws:List V) (es:List Fd) (P:Addr→Prop) (_:vs=[.ref t, .ref d]) (_:H t=some (.lst us)) (_:cA P H CF us es) (_:H d=some (.lst ws)) (_:tY H ws (es.map GY)) (_:es.length≤1000) (_:Q (.bl true) H):sP CF vs H Q u3
section
variable{X:Cx}
inductive Ep(K:Frag)(x:V)(y:V)(H:Hp)(Q:VK):Prop
 |mk (p q:Addr) (xs ys:List V) (ps:List Pr) (_:x= .ref p) (_:y= .ref q) (_:jC K H p xs) (_:jC K H q ys) (_:fO H xs ps) (_:fO H ys ps) (_:Q (.bl false) H):Ep K x y H Q
theorem sQ(K:Frag)(hu:X.A.units+1<cLine)(hK:X.K=K:=by rfl):rg X (compareOp .NotEq) (Ep K):=by
 subst hK;intro pins s σ H x y v u Q I rx ry h;obtain⟨p,q,xs,ys,ps,rfl,rfl,hp,hq,P1,P2,k⟩:=h;cases rx;cases ry;obtain⟨its,r,pl,hz⟩:=I.list hp;obtain⟨eG,r2,JV,TL⟩:=I.list hq;have l1:=r.length;have l2:=r2.length;have c1:=P1.1;have c2:=P2.1;obtain⟨⟨cls,dd,data,sl⟩,ho,hc,n,hd⟩:=id pl.isList;obtain⟨⟨Gu,tP,data2,mC⟩,vG,qK,n2,hd2⟩:=id JV.isList;simp only at hc hd qK hd2;subst hc hd qK hd2;have hsz:its.toArray.size=eG.toArray.size:=by rw[List.size_toArray,List.size_toArray];lia
 refine richCompare_meets_room (op:= .NotEq) ⟨_,ho,rfl⟩ ⟨_,vG,rfl⟩ F.slot_list_ne F.entry_list_ne (F.args_list_ne_2 _ _) (SeqAt.list_neAt p q its.toArray eG.toArray n n2 dd tP sl mC hsz fun _=>true) ⟨ho,vG,fun j h1 h2=>?_,?_⟩ Zq
 ·have HU:j<ps.length:=by simp at h1;lia
  have ej:ps[j]?=some ps[j]:=by simp[HU]
  generalize ps[j]=g at ej;obtain⟨a1,e1,g1⟩:=P1.2 j g ej;obtain⟨a2,e2,g2⟩:=P2.2 j g ej;obtain⟨u1,WT,WU⟩:=r.get e1;obtain⟨u2,WV,WW⟩:=r2.get e2;cases WU;cases WW;have k1:its.toArray[j]= .ref a1:=by simpa[List.getElem?_eq_some_iff]using(Y' WT).2
  have k2:eG.toArray[j]= .ref a2:=by simpa[List.getElem?_eq_some_iff]using(Y' WV).2
  rw[k1,k2];by_cases ha:a1=a2
  ·subst ha;exact SeqAt.EqAt.same _
  ·obtain⟨RQ,r3,RR,YC⟩:=I.tuple (xs:=jW g) (.of g1);obtain⟨RS,r4,WX,YD⟩:=I.tuple (xs:=jW g) (.of g2);have:=SeqAt.EqAt.of_refs ha (SeqAt.RcAt.tuples (A:=X.A.in1) RR WX (show X.A.in1.units<cLine from hu) (xt r3 r4 rfl rfl));have e9:true=decide (g=g):=Zx;have h3:RQ.toArray.size=(jW g).length:=by rw[List.size_toArray,←r3.length]
   have h4:RS.toArray.size=(jW g).length:=by rw[List.size_toArray,←r4.length]
   rw[h3,h4]at this;rw[e9,←Ao,←mU];exact this
 ·refine⟨(fun x=>nomatch x), .bl false,H,I,?_,k⟩;have e9:((List.range its.toArray.size).all fun _=>true)=true:=Zx;rw[e9];rfl
end
end QF
namespace QF
open PySem L2
def kD(H:Hp)(S:Addr)(ws:List V)(ks:List Ky):Prop:=ws.length=ks.length∧∀(i:Nat)(x:Ky),ks[i]?=some x→∃t l us,ws[i]?=some (V.ref t)∧H t=some (.tup [.int x.1, .ref l])∧H l=some (.lst us)∧fO H us x.2∧l≠S
theorem kD.NQ{H:Hp}{S:Addr}{ws:List V}{ks:List Ky}(D:kD H S ws ks):tY H ws ks:=⟨D.1,fun i x e=>let ⟨t,l,us,h1,h2,h3,P,_⟩:=D.2 i x e;⟨t,l,us,h1,h2,h3,P⟩⟩
theorem kD.nil{H:Hp}{S:Addr}:kD H S [] []:=⟨rfl,fun i x e=>by simp at e⟩
theorem kD.keep{H H':Hp}{S:Addr}{ws:List V}{ks:List Ky}(D:kD H S ws ks)(h:∀b o,b≠S→H b=some o→H' b=some o)(T:dR H H'):kD H' S ws ks:=
 ⟨D.1,fun i x e=>let ⟨t,l,us,h1,h2,h3,P,n⟩:=D.2 i x e;⟨t,l,us,h1,T _ _ h2,h l _ n h3,P.cw T,n⟩⟩
theorem kD.snoc{H:Hp}{S:Addr}{ws:List V}{ks:List Ky}(D:kD H S ws ks){t l:Addr}{us:List V}{x:Ky}(h1:H t=some (.tup [.int x.1, .ref l]))(h2:H l=some (.lst us))(P:fO H us x.2)(n:l≠S):kD H S (ws++[.ref t]) (ks++[x]):=by
 refine⟨by simp[D.1],fun k y e=>?_⟩;by_cases hk:k<ks.length
 ·rw[List.getElem?_append_left hk]at e;rw[List.getElem?_append_left (by rw[D.1];exact hk)];exact D.2 k y e
 ·rw[List.getElem?_append_right Zq]at e;have yr:k-ks.length=0:=by
   have:=(Y' e).1;simp at this;lia
  rw[yr]at e;cases e;refine⟨t,l,us,?_,h1,h2,P,n⟩;rw[List.getElem?_append_right (by rw[D.1];lia),D.1,yr];rfl
end QF
namespace L2
open PySem PySem.Spec PyProof.Rows PySem.W PySem.Calls
open AutoSeq1 (wpAny_loadPart')
end L2
namespace QF
open PySem L2 PySem.Spec PyProof.Rows PySem.W PySem.Calls
section
variable{X:Cx}
end
end QF
namespace QF
open PySem L2
end QF
namespace QF
open PySem L2
section
variable{m:Nat}{c:Case}
end
section
variable{φ ψ:Pr→Pr}{o p o' p' W least:Int}{f g:Nat→Nat→Option Int}
end
theorem G6{α β:Type}[DecidableEq β]{R:α→β→Prop}{l:List α}{m:List β}(h:∀a∈l,∃b∈m,R a b)(hi:l.Pairwise fun a a'=>∀b,R a b→¬R a' b):l.length≤m.length:=by
 have:∃k:List β,k.length=l.length∧k.Nodup∧(∀b∈k,b∈m)∧∀b∈k,∃a∈l,R a b:=by
  induction l with
  |nil=>exact⟨[],rfl, .nil,Zx,Zx⟩
  |cons a t ih=>
   have wQ:=List.pairwise_cons.mp hi;obtain⟨k,k1,k2,k3,k4⟩:=ih (fun x hx=>h x (List.mem_cons_of_mem _ hx)) wQ.2;obtain⟨b,hb,r⟩:=h a (List.mem_cons_self ..);refine⟨b::k,by simp[k1],List.nodup_cons.mpr ⟨fun z=>?_,k2⟩,fun x hx=>?_,fun x hx=>?_⟩
   ·obtain⟨a',GN,r'⟩:=k4 b z;exact wQ.1 a' GN b r r'
   ·rcases List.mem_cons.mp hx with rfl|hx
    ·exact hb
    ·exact k3 x hx
   ·rcases List.mem_cons.mp hx with rfl|hx
    ·exact⟨a,List.mem_cons_self ..,r⟩
    ·obtain⟨a',GN,r'⟩:=k4 x hx;exact⟨a',List.mem_cons_of_mem _ GN,r'⟩
 obtain⟨k,k1,k2,k3,_⟩:=this;rw[←k1];exact len_sub k m k2 k3
end QF
namespace L2
open PySem PySem.Spec PyProof.Rows PySem.W PySem.Calls
open AutoSeq1 (wpAny_loadPart')
open PySem.SeqAt PySem.MeetsSeq PySem.MeetsSeq2 PySem.MeetsSeq3 PySem.SeqRoads2
theorem KY{prog:Program}{w:World}{A:Around}{E:Value→Shared→Prop}{s:Shared}{x y:Addr}{p q:Int×Int}{Q:Value→Shared→Prop}(hu:A.units<cLine)(hx:iz s.heap x p)(hy:iz s.heap y q)(h:Q (.bool (h_ p q)) s):wpAny (model prog w) A (richCompare .Lt (.ref x) (.ref y)) Q E s:=si hu hx hy h
theorem EL(l b x y:Addr)(items items2:Array Value)(p q:Int×Int)(n n2:Nat)(dd tP:Option Addr)(sl mC:Array (Option Value))(h0:items[0]?=some (.ref x))(h1:items2[0]?=some (.ref y))(dE:p≠q):
  Meets (Builtin.«list.__eq__.loop» ⟨[.ref l, .ref b,rawInt 0,rawInt 0],[]⟩)
   (fun A R s=>A.units+3<cLine∧s.heap.get? l=some {cls:= .type "list",dict:=dd,data:= .seq items n,slots:=sl}∧s.heap.get? b=some {cls:= .type "list",dict:=tP,data:= .seq items2 n2,slots:=mC}∧iz s.heap x p∧iz s.heap y q∧
    R (.ok (.ret (.bool (h_ p q)))) s):=by
 intro prog w A R s h;obtain⟨hp,g,d,tk,os⟩:=s;obtain⟨hu,hl,hb,hx,hy,h⟩:=h
 wp_walk using wpAny_loadPart' hl,wpAny_loadPart' hb
 have GF:items[((0:Int)).toNat]?=some (.ref x):=h0;have yp:items2[((0:Int)).toNat]?=some (.ref y):=h1;rw[GF,yp];refine wpAny_bind (pT (show A.in1.units+1<cLine from by show A.units+1+1<cLine;lia) hx hy prog w _ _ ?_);rw[decide_eq_false dE]
 wp_walk using wpAny_loadPart' hl,wpAny_loadPart' hb
 rw[GF,yp]
 wp_walk using KY (show A.in1.units<cLine from by show A.units+1<cLine;lia) hx hy
 exact h
theorem NR(l b x y:Addr)(items items2:Array Value)(p q:Int×Int)(n n2:Nat)(dd tP:Option Addr)(sl mC:Array (Option Value))(h0:items[0]?=some (.ref x))(h1:items2[0]?=some (.ref y))(dE:p≠q):
  Meets (Builtin.«list.__lt__» ⟨[.ref l, .ref b],[]⟩)
   (fun A R s=>A.units+3<cLine∧s.heap.get? l=some {cls:= .type "list",dict:=dd,data:= .seq items n,slots:=sl}∧s.heap.get? b=some {cls:= .type "list",dict:=tP,data:= .seq items2 n2,slots:=mC}∧iz s.heap x p∧iz s.heap y q∧
    R (.ok (.ret (.bool (h_ p q)))) s):=by
 intro prog w A R s h;obtain⟨hp,g,d,tk,os⟩:=s;obtain⟨hu,hl,hb,hx,hy,h⟩:=h;have f3:=AutoSeq1.sub_list_list
 wp_walk using wpAny_loadPart' hl,wpAny_loadPart' hb
 exact⟨plainId_quiet plain_eq_loop _,codeAny_builtin entry_eq_loop (by
  rw[Around.under_plainId plain_eq_loop _];exact EL l b x y items items2 p q n n2 dd tP sl mC h0 h1 dE prog w A R _ ⟨hu,hl,hb,hx,hy,h⟩)⟩
theorem EM(l b x y:Addr)(items items2:Array Value)(p q:Int×Int)(n n2:Nat)(dd tP:Option Addr)(sl mC:Array (Option Value))(h0:items[0]?=some (.ref x))(h1:items2[0]?=some (.ref y))(dE:p≠q):
  Meets (Builtin.«list.__eq__.loop» ⟨[.ref l, .ref b,rawInt 0,rawInt 2],[]⟩)
   (fun A R s=>A.units+3<cLine∧s.heap.get? l=some {cls:= .type "list",dict:=dd,data:= .seq items n,slots:=sl}∧s.heap.get? b=some {cls:= .type "list",dict:=tP,data:= .seq items2 n2,slots:=mC}∧iz s.heap x p∧iz s.heap y q∧
    R (.ok (.ret (.bool false))) s):=by
 intro prog w A R s h;obtain⟨hp,g,d,tk,os⟩:=s;obtain⟨hu,hl,hb,hx,hy,h⟩:=h
 wp_walk using wpAny_loadPart' hl,wpAny_loadPart' hb
 have GF:items[((0:Int)).toNat]?=some (.ref x):=h0;have yp:items2[((0:Int)).toNat]?=some (.ref y):=h1;rw[GF,yp];refine wpAny_bind (pT (show A.in1.units+1<cLine from by show A.units+1+1<cLine;lia) hx hy prog w _ _ ?_);rw[decide_eq_false dE]
 wp_walk using wpAny_loadPart' hl,wpAny_loadPart' hb
 rw[GF,yp]
 wp_walk
 exact h
theorem NU(l b x y:Addr)(items items2:Array Value)(p q:Int×Int)(n n2:Nat)(dd tP:Option Addr)(sl mC:Array (Option Value))(hsz:items.size=items2.size)(h0:items[0]?=some (.ref x))(h1:items2[0]?=some (.ref y))(dE:p≠q):
  Meets (Builtin.«list.__eq__» ⟨[.ref l, .ref b],[]⟩)
   (fun A R s=>A.units+3<cLine∧s.heap.get? l=some {cls:= .type "list",dict:=dd,data:= .seq items n,slots:=sl}∧s.heap.get? b=some {cls:= .type "list",dict:=tP,data:= .seq items2 n2,slots:=mC}∧iz s.heap x p∧iz s.heap y q∧
    R (.ok (.ret (.bool false))) s):=by
 intro prog w A R s h;obtain⟨hp,g,d,tk,os⟩:=s;obtain⟨hu,hl,hb,hx,hy,h⟩:=h;have f3:=AutoSeq1.sub_list_list;have WY:¬(items.size !=items2.size)=true:=by simp[hsz]
 wp_walk using wpAny_loadPart' hl,wpAny_loadPart' hb
 exact⟨plainId_quiet plain_eq_loop _,codeAny_builtin entry_eq_loop (by
  rw[Around.under_plainId plain_eq_loop _];exact EM l b x y items items2 p q n n2 dd tP sl mC h0 h1 dE prog w A R _ ⟨hu,hl,hb,hx,hy,h⟩)⟩
open PySem.SeqAt
section
variable{prog:Program}{w:World}{A:Around}{E:Value→Shared→Prop}{s:Shared}
def EN(h:Heap)(x:Addr)(p:Int×Int):Prop:=∃items t,h.IsList x items∧items[0]?=some (.ref t)∧iz h t p
theorem EO{x y:Addr}{p q:Int×Int}{Q:Value→Shared→Prop}(hu:A.units+3<cLine)(dE:p≠q)(hx:EN s.heap x p)(hy:EN s.heap y q)(h:Q (.bool (h_ p q)) s):wpAny (model prog w) A (compareOp .Lt (.ref x) (.ref y)) Q E s:=by
 obtain⟨its,t,⟨⟨cls,dd,data,sl⟩,ho,hc,n,hd⟩,h1,h2⟩:=hx;obtain⟨eG,t2,⟨⟨Gu,tP,data2,mC⟩,vG,qK,n2,hd2⟩,g1,g2⟩:=hy;simp only at hc hd qK hd2;subst hc hd qK hd2;exact richCompare_meets_room (op:= .Lt) ⟨_,ho,rfl⟩ ⟨_,vG,rfl⟩ F.slot_list_lt F.entry_list_lt (F.args_list_lt_2 _ _) (NR x y t t2 its eG p q n n2 dd tP sl mC h1 g1 dE) ⟨hu,ho,vG,h2,g2,show Value.bool (h_ p q)≠Value.notImplemented∧Q (.bool (h_ p q)) s from⟨(fun x=>nomatch x),h⟩⟩ Zq
theorem G7{x y:Addr}{p q:Int×Int}(hu:A.units+3<cLine)(dE:p≠q)(hx:EN s.heap x p)(hy:EN s.heap y q):EqAt A s (.ref x) (.ref y) false:=by
 obtain⟨its,t,l1,h1,h2⟩:=hx;obtain⟨eG,t2,l2,g1,g2⟩:=hy;have xD:x≠y:=fun e=>by
  subst e;obtain⟨o,ho,_,n,hd⟩:=l1;obtain⟨o',A3,_,n',yo⟩:=l2;rw[ho]at A3;cases A3;rw[hd]at yo;injection yo with yo _;rw[←yo,h1]at g1;cases g1;obtain⟨o,_,_,_,e1,_,e3⟩:=h2;obtain⟨o',_,_,_,f1,_,f3⟩:=g2;rw[e1]at f1;cases f1;rw[e3]at f3;injection f3 with f3 _;have f3:=congrArg Array.toList f3;simp at f3;exact dE (Prod.ext f3.1.1 f3.2.1)
 refine EqAt.of_refs xD ?_;by_cases hsz:its.size=eG.size
 ·have i1:0<its.size:=(Array.getElem?_eq_some_iff.mp h1).1;have i2:0<eG.size:=(Array.getElem?_eq_some_iff.mp g1).1;intro prog w E Q h;obtain⟨⟨cls,dd,data,sl⟩,ho,hc,n,hd⟩:=l1;obtain⟨⟨Gu,tP,data2,mC⟩,vG,qK,n2,hd2⟩:=l2;simp only at hc hd qK hd2;subst hc hd qK hd2;exact richCompare_meets_room (op:= .Eq) ⟨_,ho,rfl⟩ ⟨_,vG,rfl⟩ F.slot_list_eq F.entry_list_eq (F.args_list_eq_2 _ _) (NU x y t t2 its eG p q n n2 dd tP sl mC hsz h1 g1 dE) ⟨hu,ho,vG,h2,g2,show Value.bool false≠Value.notImplemented∧Q (.bool false) s from⟨(fun x=>nomatch x),h⟩⟩ Zq
 ·exact RcAt.lists_lengths l1 l2 (by simpa using hsz) (by lia)
def Z2(h:Heap)(x:Addr)(k:Kw):Prop:=∃o t y c,h.get? x=some o∧o.cls= .type "tuple"∧o.data= .seq #[.int k.1 t, .ref y] c∧EN h y k.2
theorem NV{x y:Addr}{p q:Kw}{C:Bool→Shared→Prop}(hu:A.units+3<cLine)(hx:Z2 s.heap x p)(hy:Z2 s.heap y q)(dE:x=y∨p.2≠q.2)(h:C (pS p q) s):wpAny (model prog w) A (keyLt' (tuples' true) (.ref x) (.ref y)) C E s:=by
 obtain⟨ox,t,z,n,h1,h2,h3,h4⟩:=hx;obtain⟨oy,t',z',n',g1,g2,g3,g4⟩:=hy;refine kat_lt h1 h3 g1 g3 (kat_cons (LA _ _ _ _ ?_));rcases dE with e|dE
 ·subst e;rw[h1]at g1;cases g1;rw[h3]at g3;injection g3 with g3 _;have g3:=congrArg Array.toList g3;simp at g3;obtain⟨⟨a1,a2⟩,a3⟩:=g3;subst a3;have e2:p.2=q.2:=by
   obtain⟨i1,u1,b1,b2,b3⟩:=h4;obtain⟨i2,u2,c1,c2,c3⟩:=g4;obtain⟨o,ho,_,n,hd⟩:=b1;obtain⟨o',A3,_,n',yo⟩:=c1;rw[ho]at A3;cases A3;rw[hd]at yo;injection yo with yo _;rw[←yo,b2]at c2;cases c2;obtain⟨o,_,_,_,e1,_,e3⟩:=b3;obtain⟨o',_,_,_,f1,_,f3⟩:=c3;rw[e1]at f1;cases f1;rw[e3]at f3;injection f3 with f3 _;have f3:=congrArg Array.toList f3;simp at f3;exact Prod.ext f3.1.1 f3.2.1
  rw[decide_eq_true a1];refine kat_yes (kat_cons (SeqAt.EqAt.same _ _ _ _ _ (kat_yes (kat_nil ?_))));have:pS p q=decide (#[Value.int p.1 t, .ref z].size<#[Value.int q.1 t', .ref z].size):=by
   unfold pS;rw[Zi a1,e2];simp[h_]
  rw[this]at h;exact h
 ·by_cases a:p.1=q.1
  ·rw[decide_eq_true a];have e:pS p q=h_ p.2 q.2:=Zi a;rw[e]at h;exact kat_yes (kat_cons (G7 hu dE h4 g4 _ _ _ _ (kat_no (kat_one _ _ (EO hu dE h4 g4 h)))))
  ·rw[decide_eq_false a];have e:pS p q=decide (p.1<q.1):=Ze a;rw[e]at h;exact kat_no (oneLt_int h)
theorem AO{h:Heap}:∀{its:List Value},(∀v∈its,∃x p,v= .ref x∧Z2 h x p)→∃fs,KatTups h its fs∧fs.length=its.length∧∀f∈fs,∃i t,f=Value.int i t
 |[],_=>⟨[], .nil,rfl,fun f hf=>by cases hf⟩
 |v::r,hv=>by
  obtain⟨x,p,rfl,o,t,u,n,h1,h2,h3,_⟩:=hv v (List.mem_cons_self ..);obtain⟨fs,k1,k2,k3⟩:=AO (its:=r) fun v Fe=>hv v (List.mem_cons_of_mem _ Fe)
  refine⟨.int p.1 t::fs, .cons h1 h2 h3 rfl k1,by simp[k2],fun f hf=>?_⟩;rcases List.mem_cons.mp hf with rfl|hf
  ·exact⟨_,_,rfl⟩
  ·exact k3 f hf
theorem G8{its:List Value}{Q:SortKind→Shared→Prop}(dE:0<its.length)(hv:∀v∈its,∃x p,v= .ref x∧Z2 s.heap x p)(h:Q (tuples' true) s):wpAny (model prog w) A (keyKind' its.toArray) Q E s:=by
 obtain⟨fs,k1,k2,k3⟩:=AO hv;refine kat_kind (T:= .type "int") k1 Zq (fun v hv=>?_) (Zv) h;obtain⟨i,t,rfl⟩:=k3 v hv;exact .now
end
end L2
namespace QF
open PySem L2 PySem.Spec PyProof.Rows PySem.W PySem.Calls
def AQ(k:Ky):Kw:=(k.1,bY k.2)
inductive ER(K:Frag)(vs:List V)(H:Hp)(Q:VK):Prop
 |mk (l:Addr) (xs:List V) (ks:List Ky) (_:vs=[.ref l]) (_:jC K H l xs) (_:tY H xs ks) (_:(ks.map fun k=>bY k.2).Nodup) (_:∀k∈ks,k.2≠[]) (_:ks.length<10000) (_:∀D ys qs,H D=none→tY H ys qs→qs.Perm ks→qs.Pairwise (fun p q=>pS (AQ p) (AQ q)=true)→Q (.ref D) (upd H D (.lst ys))):ER K vs H Q
theorem ZV{X:Cx}(K:Frag)(hu:X.A.units+6<cLine)(hK:X.K=K:=by rfl):gY X (.builtin "sorted") (ER K):=by
 subst hK;intro pins s σ H vs us Q I r h;obtain⟨l,xs,ks,rfl,hq,DU,nd,dE,Cg,q⟩:=h;obtain⟨u,rfl,rx⟩:=vals1 r;cases rx;obtain⟨its,r',pl,hz⟩:=I.list hq;have hlen:=r'.length;have pG:=DU.1;have key:∀i,i<its.length→∃t a us,xs[i]?=some (.ref t)∧its[i]?=some (.ref t)∧H t=some (.tup [.int (ks.getD i (0,[])).1, .ref a])∧H a=some (.lst us)∧fO H us (ks.getD i (0,[])).2∧Z2 s.heap t (AQ (ks.getD i (0,[]))):=fun i hi=>by
  have hp:ks[i]?=some (ks.getD i (0,[])):=by simp[show i<ks.length by lia]
  have hn:=dE _ (Zd hp);generalize ks.getD i (0,[])=k at hp hn;obtain⟨t,a,us,h1,h2,h3,P⟩:=DU.2 i _ hp;obtain⟨v,e3,e4⟩:=r'.get h1;cases e4;refine⟨t,a,us,h1,e3,h2,h3,P,?_⟩;obtain⟨Wz,r2,⟨o,e1,e2,n,e3⟩,_⟩:=I.tuple (xs:=[.int k.1, .ref a]) (.of h2);cases r2 with
  |cons c b=>
   cases b with
   |cons c' d=>
    cases d;obtain⟨ta,rfl⟩:=c;cases c';refine⟨o,ta,a,n,e1,e2,e3,?_⟩;obtain⟨WZ,r3,RR,_⟩:=I.list (xs:=us) (.of h3);obtain⟨t0,g1,g2⟩:∃t0,us[0]?=some (V.ref t0)∧H t0=some (.tup (jW (bY k.2))):=P.2 0 _ (by
     cases e:k.2 with
     |nil=>exact absurd e hn
     |cons x r=>rfl)
    obtain⟨v,f1,f2⟩:=r3.get g1;cases f2;exact⟨WZ.toArray,t0,RR.isList,by simpa using f1,NP I g2⟩
 have Ci:∀{h':Heap},(∀b o,s.heap.get? b=some o→h'.get? b=some o)→∀{x p},Z2 s.heap x p→Z2 h' x p:=fun k _ _ ⟨o,t,u,n,a,b,c,its,v,⟨o',p1,p2⟩,l2,W0,t',u',n',q1,q2⟩=>⟨o,t,u,n,k _ _ a,b,c,its,v,⟨o',k _ _ p1,p2⟩,l2,W0,t',u',n',k _ _ q1,q2⟩
 have inj:∀i j,i<its.length→j<its.length→i≠j→(AQ (ks.getD i (0,[]))).2≠(AQ (ks.getD j (0,[]))).2:=fun i j hi hj nZ e=>by
  refine nZ ((List.getElem?_inj (by rw[List.length_map];lia) nd).mp ?_);rw[List.getElem?_map,List.getElem?_map];have h1:ks[i]?=some (ks.getD i (0,[])):=by simp[show i<ks.length by lia]
  have h2:ks[j]?=some (ks.getD j (0,[])):=by simp[show j<ks.length by lia]
  rw[h1,h2];exact congrArg some e
 have L:xw its.length fun i j=>pS (AQ (ks.getD i (0,[]))) (AQ (ks.getD j (0,[]))):=by
  refine⟨fun i j k _ _ _ a b=>Eh a b,fun i j _ _ a=>Ei a,fun i j hi hj dE=>AD fun e=>inj i j hi hj dE (congrArg Prod.snd e)⟩
 have Kv:its.Nodup:=by
  refine List.pairwise_iff_getElem.mpr fun i j hi hj nZ e=>?_
  obtain⟨t1,a1,kL,_,a2,a3,a4,a5,_⟩:=key i hi;obtain⟨t2,b1,iP,_,b2,b3,b4,b5,_⟩:=key j hj;rw[List.getElem?_eq_getElem hi]at a2;rw[List.getElem?_eq_getElem hj,←e,a2]at b2;cases b2;rw[a3]at b3;have:=HO.tup.inj (Zp b3);simp only[List.cons.injEq,V.int.injEq,V.ref.injEq,and_true]at this;obtain⟨_,rfl⟩:=this;rw[a4]at b4;have:=HO.lst.inj (Zp b4);subst this;refine inj i j hi hj Zq ?_;show bY _=bY _;have n1:=dE _ (Zd (show ks[i]?=some (ks.getD i (0,[])) by simp[show i<ks.length by lia]));have n2:=dE _ (Zd (show ks[j]?=some (ks.getD j (0,[])) by simp[show j<ks.length by lia]));have g:∀{qs:List Pr},qs≠[]→qs[0]?=some (bY qs):=fun{qs} h=>by
   cases qs with
   |nil=>exact absurd rfl h
   |cons x r=>rfl
  obtain⟨x1,u1,v1⟩:=a5.2 0 _ (g n1);obtain⟨x2,u2,v2⟩:=b5.2 0 _ (g n2);rw[u1]at u2;cases u2;rw[v1]at v2;have:=HO.tup.inj (Zp v2);simp only[jW,List.cons.injEq,V.int.injEq,and_true]at this;exact Prod.ext this.1 this.2
 refine sf (κ:=tuples' true) pl.isList Zq Kv L (fun h2 s' k Q' hq=>?_) (fun i j hi hj s' k C hC=>?_) fun p h' D c hp hs k hD e=>?_
 ·refine G8 Zq (fun v hv=>?_) hq;obtain⟨i,hi,rfl⟩:=List.mem_iff_getElem.mp hv;obtain⟨t,_,_,_,h3,_,_,_,h5⟩:=key i hi;exact⟨t,_,by rw[List.getElem?_eq_getElem hi]at h3;exact Zp h3,Ci k h5⟩
 ·obtain⟨t,_,_,_,h3,_,_,_,h5⟩:=key i hi;obtain⟨t',_,_,_,g3,_,_,_,g5⟩:=key j hj;have e1:its.getD i .none= .ref t:=by simp[h3]
  have e2:its.getD j .none= .ref t':=by simp[g3]
  rw[e1,e2];refine NV (show X.A.units+1+1+3<cLine by lia) (Ci k h5) (Ci k g5) ?_ hC;by_cases nZ:i=j
  ·subst nZ;rw[h3]at g3;exact .inl (Value.ref.inj (Zp g3))
  ·exact .inr (inj i j hi hj nZ)
 ·have mem:∀i∈p.toList,i<its.length:=fun i hi=>by
   have:=hp.mem_iff.mp hi;simpa using this
  have rel:Vals (p.toList.map fun i=>xs.getD i .cn) (p.toList.map fun i=>its.getD i Value.none):=sg fun i hi=>by
   obtain⟨t,_,_,h1,h3,_⟩:=key i (mem i hi);have e1:xs.getD i .cn= .ref t:=by simp[h1]
   have e2:its.getD i .none= .ref t:=by simp[h3]
   rw[e1,e2];rfl
  have hsz:(p.toList.map fun i=>xs.getD i V.cn).length=its.length:=by rw[List.length_map,Array.length_toList,hp.size]
  have Z5:(p.toList.map fun i=>ks.getD i (0,[])).length=its.length:=by rw[List.length_map,Array.length_toList,hp.size]
  refine⟨.ref D,_,I.laid (t':=s.toks) k hD (show cB X.prog X.w _ h' _ (.lst _)from⟨by rw[hsz,←hlen];exact hz,_,c,rel,e⟩),rfl,q D _ (p.toList.map fun i=>ks.getD i (0,[])) (I.bH.fresh hD) ⟨by rw[hsz,Z5],fun i f hf=>?_⟩ ?_ ?_⟩
  ·rw[List.getElem?_map]at hf⊢;cases ei:p.toList[i]? with
   |none=>rw[ei]at hf;cases hf
   |some j=>
    rw[ei]at hf;have hf:ks.getD j (0,[])=f:=Zp hf;obtain⟨t,a,us,h1,h3,h4,h5,h6,_⟩:=key j (mem j (Zd ei));rw[hf]at h4 h6;refine⟨t,a,us,?_,h4,h5,h6⟩;show some (xs.getD j .cn)=_;simp[h1]
  ·have h1:=hp.map (fun i=>ks.getD i (0,[]));refine h1.trans ?_;have:(List.range its.length).map (fun i=>ks.getD i (0,[]))=ks:=by
    apply List.ext_getElem?;intro i;rw[List.getElem?_map];by_cases hi:i<its.length
    ·rw[List.getElem?_range hi];simp[show i<ks.length by lia]
    ·rw[List.getElem?_eq_none (by simp;lia),List.getElem?_eq_none Zq];rfl
   rw[this]
  ·rw[List.pairwise_iff_getElem];intro i j hi hj nZ;have wQ:i<its.length:=by rw[Z5]at hi;exact hi
   have Gf:j<its.length:=by rw[Z5]at hj;exact hj
   have:=hs i j nZ Gf;have BH:=hp.size;simp only[List.getElem_map];have e1:gd p i=p.toList[i]'(by simp;lia):=by simp[gd,show i<p.size by lia]
   have e2:gd p j=p.toList[j]'(by simp;lia):=by simp[gd,show j<p.size by lia]
   rw[e1,e2]at this;exact this
end QF
namespace QF
open PySem L2
section
variable{φ:Pr→Pr}{c:Case}{es:List Fd}{ks:List Ky}
theorem oj{l:List Pr}(h:l≠[]):bY l∈l:=by
 cases l with
 |nil=>exact absurd rfl h
 |cons x r=>simp[bY]
end
section
open PySem.Spec PyProof.Rows PySem.W PySem.Calls
variable{X:Cx}
end
theorem tY.keep{H H':Hp}{ws:List V}{ks:List Ky}(D:tY H ws ks)(s:ar H H'):tY H' ws ks:=⟨D.1,fun i x e=>let ⟨t,l,us,h1,h2,h3,P⟩:=D.2 i x e;⟨t,l,us,h1,s _ _ h2,s _ _ h3,P.same s⟩⟩
structure NW(c:Case)(zs:List Str):Prop where
 x:∀w∈c.xs,w∈zs
 y:∀w∈c.ys,w∈zs
 f:∀f∈c.fs,f.1∈zs∧f.2.1∈zs
theorem AR(k:Nat)(s:Str):(List.replicate k [V.str s]).flatten=(List.replicate k s).map V.str:=by
 induction k with
 |zero=>rfl
 |succ k ih=>rw[List.replicate_succ,List.replicate_succ,List.flatten_cons,ih];rfl
section
variable{zs rs:List Str}{c:Case}(hl:rs.length=zs.length)(nd:rs.Nodup)(W:NW c zs)
include hl nd
include W
end
def eX:Int→Int→Nat→List Pr
 | _,_,0=>[]
 |a,b,k+1=>(a,b)::eX (a+1) (b+1) k
theorem om:∀(k:Nat)(a b:Int),(eX a b k).length=k
 |0,_,_=>rfl
 |k+1,a,b=>by simp[eX,om k]
theorem xT:∀(k:Nat)(a b:Int),eX a b (k+1)=eX a b k++[(a+k,b+k)]
 |0,a,b=>by simp[eX]
 |k+1,a,b=>by
  show(a,b)::eX (a+1) (b+1) (k+1)=(a,b)::(eX (a+1) (b+1) k++_)
  rw[xT k];have e:a+1+(k:Int)=a+((k+1:Nat):Int):=by lia
  have e2:b+1+(k:Int)=b+((k+1:Nat):Int):=by lia
  rw[e,e2]
theorem lW:∀(k:Nat)(a b:Int)(q:Pr),q∈eX a b k↔a≤q.1∧q.1<a+k∧q.1-q.2=a-b
 |0,a,b,q=>by simp[eX];lia
 |k+1,a,b,q=>by
  simp only[eX,List.mem_cons,lW k];constructor
  ·rintro(rfl|⟨h1,h2,h3⟩)
   ·simp;lia
   ·lia
  ·rintro⟨h1,h2,h3⟩;by_cases e:q.1=a
   ·exact .inl (Prod.ext e (by simp;lia))
   ·exact .inr Zq
theorem ZI:∀(k:Nat)(a b:Int),(eX a b k).Pairwise wR
 |0,_,_=> .nil
 |k+1,a,b=> .cons (fun q hq=>by
  have:=(lW k _ _ q).mp hq;constructor<;>simp<;>lia) (ZI k _ _)
theorem G9(k:Nat)(a b:Int):(eX a b k).Pairwise fun p q=>h_ p q=true:=(ZI k a b).imp fun{p q} h=>by
 have h1:=h.1;unfold h_;rw[Ze Zq];exact decide_eq_true h1
theorem xU:∀(k:Nat)(a b:Int)(j:Nat),j≤k→(eX a b k).take j=eX a b j
 | _,_,_,0,_=>by simp[eX]
 |k+1,a,b,j+1,h=>by simp[eX,xU k (a+1) (b+1) j Zq]
theorem sT{g:Pr→Option Int}{o p S:Int}:∀(k:Nat)(a b:Int),(∀q∈eX a b k,g q=some S)→vl g o p (eX a b k)=S*k
 |0,_,_,_=>by simp[eX,vl]
 |1,a,b,h=>by
  have:=h (a,b) (by simp[eX]);simp[eX,vl,this]
 |k+2,a,b,h=>by
  have h0:=h (a,b) (by simp[eX]);have ih:=sT (g:=g) (o:=o) (p:=p) (S:=S) (k+1) (a+1) (b+1) fun q hq=>h q (by
   rw[lW]at hq⊢
   lia)
  have e:eX a b (k+2)=(a,b)::(a+1,b+1)::eX (a+1+1) (b+1+1) k:=rfl;have e2:eX (a+1) (b+1) (k+1)=(a+1,b+1)::eX (a+1+1) (b+1+1) k:=rfl;rw[e2]at ih;rw[e];simp only[vl,h0,Option.getD_some,ih,gp];have e3:a+1-a-1=0:=by lia
  have e5:b+1-b-1=0:=by lia
  rw[e3,e5,Int.mul_zero,Int.mul_zero];have e4:S*((k+2:Nat):Int)=S*((k+1:Nat):Int)+S:=by
   rw[show((k+2:Nat):Int)=((k+1:Nat):Int)+1 by lia,Int.mul_add];lia
  rw[e4];lia
theorem ES{g:Pr→Option Int}{o p S:Int}(hS:0<S)(ho:40*S≤o)(hp:40*S≤p):∀{ps:List Pr},ps≠[]→ps.Pairwise wR→(∀q∈ps,g q=some S)→ps=eX (bY ps).1 (bY ps).2 ps.length∨vl g o p ps≤ps.length*S-40*S
 |[],h,_,_=>absurd rfl h
 |[a],_,_,_=> .inl rfl
 |a::b::r,_,hs,h=>by
  have kK:=List.pairwise_cons.mp hs;have ab:=kK.1 b (Zx);have h1:=ab.1;have h2:=ab.2;have hr:∀q∈b::r,g q=some S:=fun q hq=>h q (by simp[hq])
  have ih:=ES hS ho hp (ps:=b::r) (Zx) kK.2 hr;have le:=Iq (g:=g) (S:=S) (o:=o) (p:=p) (by lia) (by lia) kK.2 fun q hq=>⟨S,hr q hq,Int.le_refl _⟩
  have ev:vl g o p (a::b::r)=S-gp o p a b+vl g o p (b::r):=by simp only[vl,h a (Zx),Option.getD_some]
  have el:((a::b::r).length:Int)*S=((b::r).length:Int)*S+S:=by
   rw[List.length_cons (a:=a),show(((b::r).length+1:Nat):Int)=((b::r).length:Int)+1 by lia,Int.add_mul];lia
  by_cases e:b.1-a.1-1=0∧b.2-a.2-1=0
  ·have eg:gp o p a b=0:=by unfold gp;rw[e.1,e.2,Int.mul_zero,Int.mul_zero];rfl
   rcases ih with ih|ih
   ·refine .inl ?_;have eb:(bY (b::r))=(a.1+1,a.2+1):=Prod.ext (by show b.1=a.1+1;lia) (by show b.2=a.2+1;lia);rw[eb]at ih;show a::b::r=(a.1,a.2)::eX (a.1+1) (a.2+1) (b::r).length;rw[←ih]
   ·exact .inr (by rw[ev,eg,el];lia)
  ·refine .inr ?_;have g1:40*S≤gp o p a b:=by
    have a1:0≤b.1-a.1-1:=by lia
    have a2:0≤b.2-a.2-1:=by lia
    have p1:=Int.mul_nonneg (show 0≤o by lia) a1;have p2:=Int.mul_nonneg (show 0≤p by lia) a2;unfold gp;by_cases z:b.1-a.1-1=0
    ·have:1≤b.2-a.2-1:=by lia
     have:=Int.mul_le_mul (show 40*S≤p from hp) this (Zv) (by lia)
     lia
    ·have:1≤b.1-a.1-1:=by lia
     have:=Int.mul_le_mul (show 40*S≤o from ho) this (Zv) (by lia)
     lia
   rw[ev,el];lia
def dq(n m:Nat)(st:Pr):Nat:=(min ((n:Int)-st.1) ((m:Int)-st.2)).toNat
def cH(n m:Nat)(st:Pr):List Pr:=eX st.1 st.2 (dq n m st)
def ET(n m:Nat)(q:Pr):Prop:=(0≤q.1∧q.1<n)∧0≤q.2∧q.2<m
def lh(st:Pr):Prop:=(st.1=0∧0≤st.2)∨(st.2=0∧0≤st.1)
theorem cF{n m:Nat}{st q:Pr}(h:lh st):q∈cH n m st↔ET n m q∧q.1-q.2=st.1-st.2:=by
 unfold cH dq ET;rw[lW];unfold lh at h
 lia
def lp(q:Pr):Pr:=(q.1-min q.1 q.2,q.2-min q.1 q.2)
theorem rD{n m:Nat}{q:Pr}(h:ET n m q):lh (lp q)∧q.1-q.2=(lp q).1-(lp q).2:=by
 unfold ET at h;unfold lh lp;simp only
 lia
theorem EU{s t:Pr}(hs:lh s)(ht:lh t)(h:s.1-s.2=t.1-t.2):s=t:=by
 unfold lh at hs ht;exact Prod.ext Zq (by lia)
theorem EV{n m:Nat}{st q:Pr}(h:lh st)(hq:q∈cH n m st):0<dq n m st:=by
 have:(cH n m st).length=dq n m st:=om _ _ _;have:=List.length_pos_of_mem hq
 lia
section
variable{n m:Nat}{S o p least:Int}(hS:0<S)(ho:40*S≤o)(hp:40*S≤p)(hn:n≤40)(hl:1≤least)
structure Un(n m:Nat)(S:Int)(f:Nat→Nat→Option Int):Prop where
 val:∀q,(lf f q).isSome=true→lf f q=some S∧ET n m q
 all:∀q q',(lf f q).isSome=true→ET n m q'→q.1-q.2=q'.1-q'.2→(lf f q').isSome=true
theorem Un.EW{f:Nat→Nat→Option Int}(u:Un n m S f){q:Pr}(h:(lf f q).isSome=true):Wy (lf f) (cH n m (lp q))∧(∀x∈cH n m (lp q),lf f x=some S)∧q∈cH n m (lp q):=by
 have hq:=(u.val q h).2;obtain⟨s1,s2⟩:=rD hq;have hm:q∈cH n m (lp q):=(cF s1).mpr ⟨hq,s2⟩;have op:∀x∈cH n m (lp q),(lf f x).isSome=true:=fun x hx=>by
  obtain⟨a,b⟩:=(cF s1).mp hx;exact u.all q x h a (by lia)
 exact⟨⟨(fun z=>by rw[z]at hm;cases hm),op,ZI _ _ _⟩,fun x hx=>(u.val x (op x hx)).1,hm⟩
include hS ho hp hn
theorem Un.way{f:Nat→Nat→Option Int}(u:Un n m S f){ps:List Pr}(w:Wy (lf f) ps)(h:1≤vl (lf f) o p ps):ps=eX (bY ps).1 (bY ps).2 ps.length∧vl (lf f) o p ps=S*ps.length:=by
 have hv:∀q∈ps,lf f q=some S:=fun q hq=>(u.val q (w.ok q hq)).1
 have hlen:ps.length≤n:=by
  have h1:=len_sub (ps.map fun q:Pr=>q.1.toNat) (List.range n) (List.pairwise_map.mpr (List.Pairwise.imp_of_mem (fun{a b} ha hb s e=>by
   have h1:=(u.val a (w.ok a ha)).2.1;have h2:=(u.val b (w.ok b hb)).2.1;have:=s.1
   lia) w.up)) fun x hx=>by
   obtain⟨q,hq,rfl⟩:=List.mem_map.mp hx;have h1:=(u.val q (w.ok q hq)).2.1;exact List.mem_range.mpr Zq
  rw[List.length_map,List.length_range]at h1;exact h1
 rcases ES (g:=lf f) hS ho hp w.ne w.up hv with e|e
 ·refine⟨e,?_⟩;have Fe:=hv;rw[e]at Fe;have:=sT (o:=o) (p:=p) _ _ _ Fe;rw[←e]at this;exact this
 ·exfalso;have:(ps.length:Int)*S≤40*S:=Int.mul_le_mul_of_nonneg_right Zq (by lia)
  lia
include hl
structure Sl(n m:Nat)(S least:Int)(d:Fd)(st:Pr):Prop where
 NX:lh st
 pos:0<dq n m st
 worth:d.worth=S*dq n m st
 pairs:d.pairs=cH n m st
 way:d.way=cH n m st
 row:d.row=(List.range (dq n m st)).map fun k:Nat=>S*((k:Int)+1)
 least:least≤S*dq n m st
theorem Un.best{f:Nat→Nat→Option Int}(u:Un n m S f){W:Int}(T:d7 f o p W)(hW:least≤W){ps:List Pr}(b:BW f o p W ps):∃st,lh st∧ps=cH n m st∧W=S*dq n m st∧∀x∈cH n m st,lf f x=some S:=by
 obtain⟨e,v⟩:=u.way hS ho hp hn b.1 (by rw[b.2];lia);have hf:bY ps∈ps:=oj b.1.ne;obtain⟨w2,v2,m2⟩:=u.EW (b.1.ok _ hf);have q0:=(u.val _ (b.1.ok _ hf)).2;obtain⟨s1,s2⟩:=rD q0;have t:=T _ w2;have ev:vl (lf f) o p (cH n m (lp (bY ps)))=S*dq n m (lp (bY ps)):=sT _ _ _ v2;rw[ev]at t;rw[b.2]at v;rw[v]at t;have t2:(dq n m (lp (bY ps)):Int)≤ps.length:=Int.le_of_mul_le_mul_left t hS;have NY:∀x∈ps,ET n m x:=fun x hx=>(u.val x (b.1.ok x hx)).2
 have NZ:0<ps.length:=List.length_pos_of_mem hf;have N0:((bY ps).1+((ps.length-1:Nat):Int),(bY ps).2+((ps.length-1:Nat):Int))∈ps:=by
  have:((bY ps).1+((ps.length-1:Nat):Int),(bY ps).2+((ps.length-1:Nat):Int))∈eX (bY ps).1 (bY ps).2 ps.length:=(lW _ _ _ _).mpr (by simp only;lia);rw[←e]at this;exact this
 have il:=NY _ N0;have key:(bY ps)=lp (bY ps)∧ps.length=dq n m (lp (bY ps)):=by
  obtain⟨q,hq⟩:∃q,q=bY ps:=⟨_,rfl⟩
  rw[←hq]at il q0 t2⊢;simp only[ET]at il q0;simp only[dq,lp]at t2⊢;refine⟨Prod.ext ?_ ?_,?_⟩<;>(try simp only)<;>lia
 refine⟨lp (bY ps),s1,?_,?_,v2⟩
 ·have:=e;rw[key.2]at this;unfold cH;rw[←key.1];rw[←key.1]at this;exact this
 ·rw[v,key.2]
theorem Un.round{f:Nat→Nat→Option Int}(u:Un n m S f){W:Int}{gs:List (List Pr)}{ds:List Fd}(R:j_ f o p least W gs ds):(∀g∈gs,∃st,lh st∧g=cH n m st∧W=S*dq n m st)∧(∀d∈ds,∃st,Sl n m S least d st)∧Un n m S (jN f gs.flatten):=by
 have hd:∀{a b:Pr},fU f o p W a b→a.1-a.2=b.1-b.2:=fun{a b} h=>by
  induction h with
  |way ps w ha hb=>
   obtain⟨st,h1,rfl,_⟩:=u.best hS ho hp hn hl R.top R.least w;have x1:=((cF h1).mp ha).2;have x2:=((cF h1).mp hb).2
   lia
  |tr _ _ i1 i2=>lia
 have hg:∀g∈gs,∃st,lh st∧g=cH n m st∧W=S*dq n m st∧∀x∈cH n m st,lf f x=some S:=fun g hg=>by
  obtain⟨a,ha⟩:=List.exists_mem_of_ne_nil g (R.told.ne g hg);obtain⟨ps,b,hm⟩:=(R.told.mem hg ha).on;obtain⟨st,h1,rfl,h3,h4⟩:=u.best hS ho hp hn hl R.top R.least b;refine⟨st,h1,vW EK (R.told.tQ g hg) (G9 _ _ _) fun q=>?_,h3,h4⟩;rw[R.told.cls g hg a ha q];have xa:=((cF h1).mp hm).2;constructor
  ·intro k;have:=hd k;have op:=(u.val q k.symm.open).2;exact(cF h1).mpr ⟨op,by lia⟩
  ·intro hq;exact .way _ b hm hq
 refine⟨fun g h=>let ⟨st,a,b,c,_⟩:=hg g h;⟨st,a,b,c⟩,fun d h=>?_,?_⟩
 ·have hx:d.pairs∈gs:=by rw[←R.Fo];exact List.mem_map.mpr ⟨d,h,rfl⟩
  obtain⟨st,h1,h2,h3,h4⟩:=hg _ hx;have k:=R.ok d h;obtain⟨aL,g1,g2,g3,g4⟩:=u.best hS ho hp hn hl R.top R.least k.way;have hf:=oj k.way.1.ne;have m1:=k.sub _ hf;rw[h2]at m1;have m2:=hf;rw[g2]at m2;have es:aL=st:=EU g1 h1 (by
   have x1:=((cF h1).mp m1).2;have x2:=((cF g1).mp m2).2;rw[g2]at x1
   lia)
  subst es;refine⟨aL,h1,EV h1 m1,by rw[k.worth,h3],h2,g2,?_,by rw[←h3];exact R.least⟩;rw[k.row,g2];unfold xO;have el:(cH n m aL).length=dq n m aL:=om _ _ _;rw[el];apply List.map_congr_left;intro j hj;have hj:=List.mem_range.mp hj;unfold cH;rw[xU _ _ _ _ (by lia),sT (S:=S)]
  ·rfl
  ·intro q hq;refine h4 q ?_;unfold cH;rw[lW]at hq⊢
   lia
 ·refine⟨fun q hq=>?_,fun q q' hq hi e=>?_⟩
  ·rw[lV]at hq⊢;split at hq
   ·cases hq
   ·rename_i hh
    rw[Ze hh];exact u.val q hq
  ·rw[lV]at hq⊢;split at hq
   ·cases hq
   ·rename_i hh
    rw[if_neg fun z=>hh ?_]
    ·exact u.all q q' hq hi e
    ·obtain⟨g,h1,h2⟩:=List.mem_flatten.mp z;obtain⟨st,a,b,_⟩:=hg g h1;refine List.mem_flatten.mpr ⟨g,h1,?_⟩;rw[b]at h2⊢;have:=((cF a).mp h2).2;exact(cF a).mpr ⟨(u.val q hq).2,by lia⟩
theorem Un.reach{f0:Nat→Nat→Option Int}(u:Un n m S f0){f:Nat→Nat→Option Int}{ds:List Fd}(r:Reach f0 o p least ds f):Un n m S f∧(∀d∈ds,∃st,Sl n m S least d st)∧∀q,(lf f0 q).isSome=true→lf f q=none→∃d∈ds,q∈d.pairs:=by
 induction r with
 |start=>exact⟨u,Zx,fun q h1 h2=>by rw[h2]at h1;cases h1⟩
 |@round done f W gs ds r R ih=>
  obtain⟨u1,i2,i3⟩:=ih;obtain⟨_,r2,r3⟩:=u1.round hS ho hp hn hl R;refine⟨r3,fun d h=>?_,fun q h1 h2=>?_⟩
  ·rcases List.mem_append.mp h with h|h
   ·exact i2 d h
   ·exact r2 d h
  ·rw[lV]at h2;by_cases hq:q∈gs.flatten
   ·obtain⟨g,g1,g2⟩:=List.mem_flatten.mp hq;rw[←R.Fo]at g1;obtain⟨d,hd,rfl⟩:=List.mem_map.mp g1;exact⟨d,List.mem_append_right _ hd,g2⟩
   ·rw[Ze hq]at h2;obtain⟨d,hd,k⟩:=i3 q h1 h2;exact⟨d,List.mem_append_left _ hd,k⟩
end
def G_(n m:Nat)(S o p least:Int)(w:Str):Case:=⟨List.replicate n w,List.replicate m w,S,o,p,least,[]⟩
theorem EX{n m:Nat}{S o p least:Int}{w:Str}(q:Pr):((lf (mf (G_ n m S o p least w) []) q).isSome=true→lf (mf (G_ n m S o p least w) []) q=some S∧ET n m q)∧(ET n m q→lf (mf (G_ n m S o p least w) []) q=some S):=by
 have hw:∀(k:Nat)(i:Int),wd (List.replicate k w) i=if 0≤i∧i<k then some w else none:=fun k i=>by
  unfold wd;by_cases h:0≤i
  ·rw[Zi h,List.getElem?_replicate];by_cases h2:i<k
   ·rw[Zi Zq,Zi ⟨h,h2⟩]
   ·rw[Ze Zq,Ze Zq]
  ·rw[Ze h,Ze Zq]
 have key:lf (mf (G_ n m S o p least w) []) q=(wd (List.replicate n w) q.1).bind fun x=>(wd (List.replicate m w) q.2).bind fun y=>jJ S [] x y:=by rw[KW];rfl
 rw[key];rw[hw,hw];unfold ET;by_cases h1:0≤q.1∧q.1<n
 ·by_cases h2:0≤q.2∧q.2<m
  ·rw[Zi h1,Zi h2];exact⟨fun _=>⟨by simp[jJ],h1,h2⟩,fun _=>by simp[jJ]⟩
  ·rw[Zi h1,Ze h2];exact⟨fun z=>by simp at z,fun z=>absurd z.2 h2⟩
 ·rw[Ze h1];exact⟨fun z=>by simp at z,fun z=>absurd z.1 h1⟩
theorem Iu{n m:Nat}{S o p least:Int}{w:Str}:Un n m S (mf (G_ n m S o p least w) []):=⟨fun q h=>(EX q).1 h,fun q q' h hi _=>by rw[(EX q').2 hi];rfl⟩
def bZ(n m:Nat):List Pr:=(List.range n).map (fun k:Nat=>((k:Int),(0:Int)))++(List.range (m-1)).map fun k:Nat=>((0:Int),(1:Int)+(k:Int))
theorem ka{n m:Nat}{st:Pr}:(st∈bZ n m→lh st)∧(lh st→0<dq n m st→st∈bZ n m):=by
 unfold bZ;rw[List.mem_append,List.mem_map,List.mem_map];constructor
 ·rintro(⟨k,h,rfl⟩|⟨k,h,rfl⟩)
  ·exact .inr ⟨rfl,Zx⟩
  ·exact .inl ⟨rfl,by simp;lia⟩
 ·intro h hp;have OO:=hp;unfold dq at OO;unfold lh at h;by_cases z:st.2=0
  ·refine .inl ⟨st.1.toNat,List.mem_range.mpr Zq,Prod.ext (by simp;lia) (by simp;lia)⟩
  ·refine .inr ⟨(st.2-1).toNat,List.mem_range.mpr Zq,Prod.ext (by simp;lia) (by simp;lia)⟩
theorem BU(n m:Nat):(bZ n m).Nodup:=by
 unfold bZ;refine List.pairwise_append.mpr ⟨List.pairwise_map.mpr (List.nodup_range.imp fun{a b} h e=>h (by simp at e;lia)),List.pairwise_map.mpr (List.nodup_range.imp fun{a b} h e=>h (by simp at e;lia)),fun a ha b hb e=>?_⟩;obtain⟨i,_,rfl⟩:=List.mem_map.mp ha;obtain⟨j,_,rfl⟩:=List.mem_map.mp hb;simp at e
 lia
def hG(n m:Nat)(S least:Int)(st:Pr):Bool:=decide (0<dq n m st)&&decide (least≤S*dq n m st)
def qN(n m:Nat)(st:Pr):Ky:=(0-(dq n m st:Int),cH n m st)
def qO(n m:Nat)(S least:Int):List Ky:=((bZ n m).filter (hG n m S least)).map (qN n m)
theorem gH{n m:Nat}{st:Pr}(h:0<dq n m st):bY (cH n m st)=st∧cH n m st≠[]:=by
 unfold cH;cases e:dq n m st with
 |zero=>lia
 |succ k=>exact⟨rfl,by simp[eX]⟩
theorem Zy(n m:Nat)(S least:Int):((qO n m S least).map fun k=>bY k.2).Nodup∧∀k∈qO n m S least,k.2≠[]:=by
 unfold qO;rw[List.map_map];have hc:∀st∈(bZ n m).filter (hG n m S least),0<dq n m st:=fun st h=>by
  have:=(List.mem_filter.mp h).2;unfold hG at this;simp only[Bool.and_eq_true,decide_eq_true_eq]at this;exact this.1
 refine⟨List.pairwise_map.mpr (List.Pairwise.imp_of_mem (fun{a b} ha hb h e=>h ?_) ((BU n m).filter _)),fun k hk=>?_⟩
 ·obtain⟨st,hs,rfl⟩:=List.mem_map.mp hk;exact(gH (hc st hs)).2
 ·have e:bY (cH n m a)=bY (cH n m b):=e;rw[(gH (hc a ha)).1,(gH (hc b hb)).1]at e;exact e
theorem EY(n m:Nat)(S least:Int):(qO n m S least).length≤n+m:=by
 unfold qO bZ;rw[List.length_map];refine Nat.le_trans (List.length_filter_le _ _) ?_;rw[List.length_append,List.length_map,List.length_map,List.length_range,List.length_range]
 lia
section
variable{n m:Nat}{S o p least:Int}{w:Str}(hS:0<S)(ho:40*S≤o)(hp:40*S≤p)(hn:n≤40)(hl:1≤least)
include hS ho hp hn hl
theorem EZ{f:Nat→Nat→Option Int}{ds:List Fd}(r:Reach (mf (G_ n m S o p least w) []) o p least ds f):ds.length≤(qO n m S least).length:=by
 obtain⟨_,h,_⟩:=Iu.reach hS ho hp hn hl r;have:=G6 (R:=fun d (q:Pr)=>bY d.pairs=q) (l:=ds) (m:=(qO n m S least).map fun k=>bY k.2) (fun d hd=>by
  obtain⟨st,k⟩:=h d hd;refine⟨bY d.pairs,List.mem_map.mpr ⟨qN n m st,List.mem_map.mpr ⟨st,List.mem_filter.mpr ⟨ka.2 k.NX k.pos,?_⟩,rfl⟩,?_⟩,rfl⟩
  ·unfold hG;simp only[Bool.and_eq_true,decide_eq_true_eq];exact⟨k.pos,k.least⟩
  ·show bY (cH n m st)=_;rw[k.pairs]) (List.Pairwise.imp_of_mem (fun{a b} ha hb ab q e1 e2=>by
  obtain⟨st,k⟩:=h a ha;obtain⟨aL,k'⟩:=h b hb;have n1:a.pairs≠[]:=by rw[k.pairs];exact(gH k.pos).2
  have n2:b.pairs≠[]:=by rw[k'.pairs];exact(gH k'.pos).2
  have m2:=oj n2;rw[e2,←e1]at m2;exact ab _ (oj n1) m2) r.apart.ap)
 rw[List.length_map]at this;exact this
theorem pZ.alike{es:List Fd}(t:pZ (mf (G_ n m S o p least w) []) o p least es){ls:List Ky}(pm:ls.Perm (qO n m S least))(sr:ls.Pairwise fun a b=>pS (AQ a) (AQ b)=true):es.map GY=(ls.map fun k=>((0-k.1)*S,k.2))∧∀d∈es,∃st,Sl n m S least d st:=by
 obtain⟨ds,f,r,sp,Um⟩:=t.Ul;obtain⟨u,h,k⟩:=Iu.reach hS ho hp hn hl r;have Uo:∀d∈es,∃st,Sl n m S least d st:=fun d hd=>h d (Um.mem_iff.mp hd)
 refine⟨vW G0 (List.pairwise_map.mpr t.tQ) (List.pairwise_map.mpr (sr.imp fun{a b} z=>?_)) fun x=>?_,Uo⟩
 ·unfold pS AQ at z;unfold GZ;simp only at z⊢;by_cases e:a.1=b.1
  ·rw[Zi e]at z;rw[Zi (by rw[e])];exact z
  ·rw[Ze e]at z;have z:=of_decide_eq_true z;have lt:=Int.mul_lt_mul_of_pos_right (show 0-b.1<0-a.1 by lia) hS;rw[Ze Zq];exact decide_eq_true lt
 ·rw[List.mem_map,List.mem_map];have ev:∀st,((0-(qN n m st).1)*S,(qN n m st).2)=(S*(dq n m st:Int),cH n m st):=fun st=>Prod.ext (by show(0-(0-(dq n m st:Int)))*S=_;rw[Int.mul_comm];congr 1;lia) rfl
  constructor
  ·rintro⟨d,hd,rfl⟩;obtain⟨st,q⟩:=Uo d hd;refine⟨qN n m st,pm.mem_iff.mpr (List.mem_map.mpr ⟨st,List.mem_filter.mpr ⟨ka.2 q.NX q.pos,?_⟩,rfl⟩),?_⟩
   ·unfold hG;simp only[Bool.and_eq_true,decide_eq_true_eq];exact⟨q.pos,q.least⟩
   ·rw[ev];exact(Prod.ext q.worth q.pairs).symm
  ·rintro⟨y,hy,rfl⟩;obtain⟨st,hs,rfl⟩:=List.mem_map.mp (pm.mem_iff.mp hy);obtain⟨h1,h2⟩:=List.mem_filter.mp hs;unfold hG at h2;simp only[Bool.and_eq_true,decide_eq_true_eq]at h2;have is:=ka.1 h1;have hm:st∈cH n m st:=by
    have:=oj (gH h2.1).2;rw[(gH h2.1).1]at this;exact this
   have hi:=((cF is).mp hm).1;have o0:=(EX (n:=n) (m:=m) (S:=S) (o:=o) (p:=p) (least:=least) (w:=w) st).2 hi;cases e:lf f st with
   |some v=>
    exfalso;have op:(lf f st).isSome=true:=by rw[e];rfl
    obtain⟨w2,v2,m2⟩:=u.EW op;have es:lp st=st:=by
     have a:=((cF (rD hi).1).mp m2).2;exact EU (rD hi).1 is a.symm
    rw[es]at w2 v2;have:=sp _ w2;unfold cH at this v2;rw[sT _ _ _ v2]at this
    lia
   |none=>
    obtain⟨d,hd,hq⟩:=k st (by rw[o0];rfl) e;obtain⟨aL,q⟩:=h d hd;rw[q.pairs]at hq;have es:st=aL:=by
     have a:=((cF q.NX).mp hq).2;exact EU is q.NX a
    subst es;refine⟨d,Um.mem_iff.mpr hd,?_⟩;rw[ev];exact Prod.ext q.worth q.pairs
end
inductive p0(vs:List V)(H:Hp)(Q:VK)(u3:XK):Prop
 |mk (n m:Nat) (S L:Int) (_:vs=[.int n, .int m, .int S, .int L]) (_:n≤50) (_:m≤50) (_:0<S) (_:S≤1000) (_:∀(H':Hp)(r:Addr)(ws:List V)(ls:List Ky),ar H H'→H' r=some (.lst ws)→tY H' ws (ls.map fun k:Ky=>((0-k.1)*S,k.2))→ls.Perm (qO n m S L)→ls.Pairwise (fun a b=>pS (AQ a) (AQ b)=true)→Q (.ref r) H'):p0 vs H Q u3
theorem RT(us:List Value)(e:us.length=5):∃a b c d f,us=[a,b,c,d,f]:=by
 match us,e with
 |[a,b,c,d,f],_=>exact⟨a,b,c,d,f,rfl⟩
end QF
namespace L2
open PySem PySem.Spec PyProof.Rows PySem.W PySem.Calls
section
variable{prog:Program}{w:World}{A:Around}{E:Value→Shared→Prop}{s:Shared}
end
end L2
namespace QF
open PySem L2 PySem.Spec PyProof.Rows PySem.W PySem.Calls
end QF
namespace QF
open PySem L2 PySem.Spec PyProof.Rows PySem.W PySem.Calls
structure RU(κ:Type) where
 d:κ
 lt:κ→κ→Bool
 tr:∀{p q r},lt p q=true→lt q r=true→lt p r=true
 as:∀{p q},lt p q=true→lt q p=false
 OX:∀{p q},p≠q→lt p q=true∨lt q p=true
 RV:Hp→Addr→κ→Prop
 E2:Heap→Addr→κ→Prop
 keep:∀{H H':Hp}{a w},ar H H'→RV H a w→RV H' a w
 get:∀{X:Cx}{pins:List (Addr×Obj)}{σ:L2.St}{H:Hp}{s:Shared}{a:Addr}{w:κ},Inv X pins σ H s→RV H a w→E2 s.heap a w
 klt:∀{prog:Program}{w:World}{A:Around}{E:Value→Shared→Prop}{s:Shared}{x y:Addr}{p q:κ}{C:Bool→Shared→Prop},A.units+1<cLine→E2 s.heap x p→E2 s.heap y q→C (lt p q) s→wpAny (model prog w) A (keyLt' (tuples' true) (.ref x) (.ref y)) C E s
 tup:∀{h x p},E2 h x p→∃o i t vs c,h.get? x=some o∧o.cls= .type "tuple"∧o.data= .seq (Value.int i t::vs).toArray c
section
variable{X:Cx}{cm:Bool}{k:Nat}{f:Addr}{fd:FuncData}{ps:List Str}{sp:Sp}{A':Around}{pins:List (Addr×Obj)}{σ:L2.St}{H:Hp}{s:Shared}{E:Value→Shared→Prop}{a kS:Addr}{vs:List Value}{xs:List V}{κ:Type}{T:RU κ}{ws:List κ}{e1:Nat}{P:PySem.Fin→Shared→Prop}
end
end QF
namespace QF
open PySem L2
section
variable(nu:Int)(o n:Str)(w:Int)(a r p:Addr)(l:Bool)
end
abbrev sR(a:Addr):Option V:=some (.ref a)
abbrev sI(a:Int):Option V:=some (.int a)
abbrev sS(a:Str):Option V:=some (.str a)
end QF
namespace RW
open PySem L2 QF
def top(i:Nat):Stmt:=PySem.Challenge.pw_quotefind_k29_alike.main.body.getD i (.Pass ⟨0,0,0,0⟩)
abbrev fV:Stmt:=top 39
abbrev lX:Stmt:=top 40
abbrev kb:Stmt:=top 45
abbrev iQ:Stmt:=top 46
abbrev fW:Stmt:=top 47
abbrev gP:Stmt:=top 48
abbrev bq:Stmt:=inClass (top 49) 0
abbrev dJ:Stmt:=inClass (top 49) 1
abbrev kc:Stmt:=top 22
abbrev ZD:Stmt:=top 23
abbrev fB:Stmt:=top 24
abbrev du:Stmt:=inClass (top 25) 1
abbrev d8:Stmt:=inClass (top 25) 0
abbrev gI:Stmt:=inClass (top 25) 2
abbrev dM:Stmt:=inClass (top 25) 4
abbrev cN:Stmt:=inClass (top 25) 3
abbrev eJ:Stmt:=inClass (top 25) 5
abbrev ij:Stmt:=inClass (top 25) 6
abbrev fC:Stmt:=inClass (top 31) 0
abbrev m4:Stmt:=top 35
abbrev eK:Stmt:=top 32
abbrev fX:Stmt:=inClass (top 18) 0
abbrev iB:Stmt:=inClass (top 18) 1
abbrev eY:Stmt:=inClass (top 18) 2
abbrev eL:Stmt:=inClass (top 18) 3
abbrev gQ:Stmt:=inClass (top 18) 4
abbrev eM:Stmt:=inClass (top 19) 0
abbrev eZ:Stmt:=inClass (top 19) 1
abbrev c7:Stmt:=inClass (top 19) 2
abbrev d_:Stmt:=inClass (top 19) 3
abbrev jy:Stmt:=top 20
abbrev lY:Stmt:=top 27
abbrev fh:Stmt:=top 28
abbrev fY:Stmt:=top 33
abbrev ke:Stmt:=top 34
abbrev p8:Stmt:=top 36
abbrev p9:Stmt:=top 51
abbrev kf:Stmt:=top 52
abbrev lq:Stmt:=top 53
abbrev kg:Stmt:=top 54
abbrev m6:Stmt:=top 55
abbrev lr:Stmt:=top 56
abbrev fZ:Stmt:=top 57
abbrev e6:Stmt:=top 58
abbrev cC:Stmt:=top 59
abbrev oq:Stmt:=top 60
section
variable{P:Program}{w:World}{K:W.Frag}{mg:Str→Option Value}{base:Heap}
variable{f9 fJ fK bK bF hJ fL fM dF lu aM hU dG fN dH aU av ay aD au:Addr}
variable(T:TB mg)
theorem m7:aJ ["sign"] ["sign"] (ao fV):=iV
include T in
theorem m_{f:Addr}{fd:FuncData}(F:lO K "is_small_letter" "is_small_letter" fV f fd):bf P w K mg base (dD P w) true 1 f fd ["sign"] yS:=by
 refine F.iL m7 Zs iW
 ·obtain⟨i,rfl,_⟩:=h;rfl
 ·obtain⟨c,rfl,q⟩:=h;refine⟨_,(Zg (@aQ _ _ _ _ (@pD _ _ _ _ _ _ _ (@ir _ _ _ _ _ _ _ _ uP bb (pv 0) (aY _)) (@pC _ _ _ _ _ (@ir _ _ _ _ _ _ _ _ uP (pv 0) bb (aY _)))))),?_⟩;refine⟨_,rfl,_,_,rfl,rfl,_,rfl,?_⟩;have q:Q (.bl (decide (97≤c)&&decide (c≤122))) H:=q;rw[←Q4,←Q5]at q;refine bB (fun h=>?_) (fun h=>?_)
  ·refine⟨_,rfl,_,_,rfl,rfl,?_⟩;rw[h,Bool.true_and]at q;exact q
  ·rw[Bool.not_eq_true]at h;rw[h,Bool.false_and]at q;exact q
variable(jb:CH mg "WORD_MOST" (.int 12))
variable(eh:cK P w K mg base true 1 "is_small_letter" ["sign"] yS)
theorem Zz:aJ ["text"] ["text"] (ao lX):=iV
include T jb eh in
theorem Z_{f:Addr}{fd:FuncData}(F:lO K "is_word" "is_word" lX f fd):bf P w K mg base (dD P w) true 2 f fd ["text"] vy:=by
 refine F.iL Zz Zs iW
 ·obtain⟨i,rfl,_⟩:=h;rfl
 ·obtain⟨z,rfl,hz,q⟩:=h;refine⟨_,(Zn (Zm (@PW.pt _ _ _ (@pw_or _ _ _ _ _ _ _ (@aZ _ _ _ _ _ _ _ _ xb (Y4 nK T.d6 PyProof.Rows.Boot.«len» (Y2 (pv 0) af)) aq (aY _)) (@pw_or1 _ _ _ _ (@aZ _ _ _ _ _ _ _ _ qy (Y4 nK T.d6 PyProof.Rows.Boot.«len» (Y2 (pv 0) af)) (@ft _ _ _ _ jb (Zw) (Zv)) (aY _))))) (Zg (@aQ _ _ _ _ eE)) aR) (Zg (@aQ _ _ _ _ (Y4 (Bu K rfl) T.M6 PyProof.Rows.Boot.«all» (Y2 (@gM _ _ _ _ _ _ _ _ _ _ _ _ _ _ (by exact rfl) (show ba ["text"] (ao lX) _ ["sign"] [] []from AS) (@JM _ _ _ _ (pv 0)) (fun _ _ _ _ _=>(Y6 (0) (show(["sign"]:List Str).Nodup by decide+kernel) (Or.inl rfl))) (fun _ _ _ _ _=>fq) (fun _ _ _ _ _=>(Y5 eh aV (Y2 (pv 0) af))) (by intro _;rfl)) af))))),?_⟩;have Up:z.length≤sizeLine:=Nat.le_trans hz (Zv);refine⟨_,rfl,z,rfl,Up,_,_,rfl,rfl,_,rfl,?_⟩;refine bB (fun h=>?_) (fun h=>?_)
  ·have h:((z.length:Nat):Int)<1:=by simpa using h
   refine jH ?_;have e:vx z=false:=by
    have:¬1≤z.length:=by lia
    simp[vx,this]
   have q:=q H (ar.refl H);rw[e]at q;exact q
  have h:¬((z.length:Nat):Int)<1:=by simpa using h
  refine⟨_,rfl,z,rfl,Up,_,_,rfl,rfl,_,rfl,?_⟩;refine bB (fun h2=>?_) (fun h2=>?_)
  ·have h2:(12:Int)<((z.length:Nat):Int):=by simpa using h2
   have e:vx z=false:=by
    have:¬z.length≤12:=by lia
    simp[vx,this]
   have q:=q H (ar.refl H);rw[e]at q;exact q
  have h2:¬(12:Int)<((z.length:Nat):Int):=by simpa using h2
  have hl:z.length≤12:=by lia
  have e:vx z=z.cps.toList.all low:=by
   have h3:1≤z.length:=by lia
   simp[vx,h3,hl]
  refine⟨_,rfl,z,rfl,fun D hD=>?_⟩;refine Dd (fun i ys σ H'=>(∃v,σ=[v])∧ys=(z.cps.toList.take i).map (fun c=>V.bl (low c))∧H'=upd H D (.lst ys)) ⟨⟨_,rfl⟩,rfl,rfl⟩ ?_ ?_
  ·rintro i c ys σ H' hc ⟨⟨v,rfl⟩,hy,rfl⟩;refine kY ?_;refine⟨_,rfl,c,rfl,ae,?_,⟨_,rfl⟩,?_,?_⟩
   ·rw[hy,List.length_map,List.length_take];exact Nat.lt_of_le_of_lt (Nat.min_le_left _ _) (Nat.lt_of_lt_of_le (Nat.lt_of_lt_of_le (Y' hc).1 (by simpa[Str.length]using hl)) (Zv))
   ·rw[hy,List.take_succ,hc];simp
   ·rw[fQ]
  ·rintro ys σ H' ⟨_,hy,rfl⟩;have RX:ys=(z.cps.toList.map low).map V.bl:=by
    rw[hy,List.take_of_length_le (by simp[Str.length])];simp
   rw[RX];refine⟨D,z.cps.toList.map low,rfl,jC.of ae,?_⟩;have q:=q _ (ar.upd hD:ar H (upd H D (.lst ((z.cps.toList.map low).map V.bl))));rw[e]at q;have e3:(z.cps.toList.map low).all id=z.cps.toList.all low:=by rw[List.all_map];rfl
   rw[←e3]at q;exact q
theorem tZ:aJ ["low","number","high"] ["low","number","high"] (ao kb):=iV
include T in
theorem t5{f:Addr}{fd:FuncData}(F:lO K "is_between" "is_between" kb f fd):bf P w K mg base (dD P w) true 1 f fd ["low","number","high"] mT:=by
 refine F.iL tZ Zs iW
 ·obtain⟨l,n,h,rfl,_⟩:=h;rfl
 ·obtain⟨l,n,h,rfl,q⟩:=h;refine⟨_,(Zg (@aQ _ _ _ _ (@pD _ _ _ _ _ _ _ (@ir _ _ _ _ _ _ _ _ Hy (pv 0) (pv 1) (aY _)) (@pC _ _ _ _ _ (@ir _ _ _ _ _ _ _ _ Hy (pv 1) (pv 2) (aY _)))))),?_⟩;refine⟨_,rfl,_,rfl,_,_,rfl,rfl,_,rfl,?_⟩;refine bB (fun h1=>?_) (fun h1=>?_)
  ·refine⟨_,rfl,_,rfl,_,_,rfl,rfl,?_⟩;rw[h1,Bool.true_and]at q;exact q
  ·rw[Bool.not_eq_true]at h1;rw[h1,Bool.false_and]at q;exact q
variable(dN:cK P w K mg base true 1 "is_between" ["low","number","high"] mT)
variable(eO:Er K mg "BadTerms" bK)
theorem qQ:aJ ["name","number","low","high"] ["name","number","low","high"] (ao iQ):=iV
include T dN eO in
theorem qR{f:Addr}{fd:FuncData}(F:lO K "check_number" "check_number" iQ f fd):bf P w K mg base (dD P w) true 2 f fd ["name","number","low","high"] (pJ bK):=by
 refine F.iL qQ Zs iW
 ·obtain⟨nm,n,l,h,rfl,_⟩:=h;rfl
 ·obtain⟨nm,n,l,h,rfl,hn,hl,hh,q⟩:=h;refine⟨_,(Zg (Zm (@cM _ _ _ _ (@bQ _ _ _ (Y5 dN aV (Y2 (pv 2) (Y2 (pv 1) (Y2 (pv 3) af)))) (by intro _;rfl))) (Zg (@iK _ _ _ _ _ _ _ _ _ _ hX Zt (by exact rfl) eO.m eO.e (Y2 (@lP _ _ _ _ _ _ (@eW _ _ _ _ _ (@pI _ _ _ _ (pv 0)) (@eW _ _ _ _ _ bb (@eW _ _ _ _ _ (@pI _ _ _ _ (pv 2)) (@eW _ _ _ _ _ bb (@eW _ _ _ _ _ (@pI _ _ _ _ (pv 3)) vp)))))) af) (Zv) (Zw) (Zw))) aR)),?_⟩;refine⟨_,rfl,_,rfl,_,rfl,l,n,h,rfl,?_⟩;refine⟨_,rfl,?_⟩;refine bB (fun h1=>?_) (fun h1=>?_)
  ·have h1:inR l n h=false:=(Bool.not_eq_true' _).mp h1;rw[h1]at q;have z1:=nU (i:=l) (by lia);have z2:=nU (i:=h) (by lia);have w1:(Str.ofString " lies between ").length=14:=by decide+kernel
   have w2:(Str.ofString " and ").length=5:=by decide+kernel
   have w3:=lQ;refine⟨_,rfl, .inl ⟨nm,rfl,ax Zq,nm,rfl,ax ?_,_,rfl,ax ?_,_,rfl, .inr ⟨l,rfl,z1.1,_,rfl,ax ?_,_,rfl,ax ?_,_,rfl, .inr ⟨h,rfl,z2.1,_,rfl,ax ?_,ax ?_,g7,?_⟩⟩⟩⟩
   ·rw[len_app];lia
   ·rw[len_app,len_app];lia
   ·rw[len_app,len_app,len_app];lia
   ·rw[len_app,len_app,len_app,len_app];lia
   ·rw[len_app,len_app,len_app,len_app,len_app];lia
   ·rw[len_app,len_app,len_app,len_app,len_app];lia
   ·exact q
  ·have h1:inR l n h=true:=by
    have h1:¬(!(inR l n h))=true:=h1;simpa using h1
   rw[h1]at q;exact q
variable(bL:CH mg "WORTH_MOST" (.int 999999))
variable(jO:cK P w K mg base true 2 "is_word" ["text"] vy)
variable(bA:Er K mg "BadNear" bF)
theorem nc:aJ ["x","y","price"] ["x","y","price"] (ao fW):=iV
include T dN bL jO bA in
theorem nh{f:Addr}{fd:FuncData}(F:lO K "check_near_form" "check_near_form" fW f fd):bf P w K mg base (dD P w) true 3 f fd ["x","y","price"] (vz bF):=by
 refine F.iL nc Zs iW
 ·obtain⟨x,y,p,rfl,_⟩:=h;rfl
 ·obtain⟨x,y,p,rfl,hx,hy,q⟩:=h;have bad:j5 x y p=false→∀H',ar H H'→E (.ref bF) none H':=fun e=>by rw[e]at q;exact q
  have good:j5 x y p=true→∀H',ar H H'→Q .cn H':=fun e=>by rw[e]at q;exact q
  refine⟨_,(Zn (Zm (@PW.pt _ _ _ (@pw_or _ _ _ _ _ _ _ (@cM _ _ _ _ (@bQ _ _ _ (Y5 jO aV (Y2 (pv 0) af)) (by intro _;rfl))) (@pw_or1 _ _ _ _ (@cM _ _ _ _ (@bQ _ _ _ (Y5 jO aV (Y2 (pv 1) af)) (by intro _;rfl)))))) (Zg (@iK _ _ _ _ _ _ _ _ _ _ hX Zt (by exact rfl) bA.m bA.e (Y2 bb af) (Zv) (Zw) (Zw))) aR) (Zn (Zm (@aZ _ _ _ _ _ _ _ _ jD (pv 0) (pv 1) (aY _)) (Zg (@iK _ _ _ _ _ _ _ _ _ _ hX Zt (by exact rfl) bA.m bA.e (Y2 bb af) (Zv) (Zw) (Zw))) aR) (Zg (Zm (@cM _ _ _ _ (@bQ _ _ _ (Y5 dN aV (Y2 aq (Y2 (pv 2) (Y2 (@ft _ _ _ _ bL (Zw) (Zv)) af)))) (by intro _;rfl))) (Zg (@iK _ _ _ _ _ _ _ _ _ _ hX Zt (by exact rfl) bA.m bA.e (Y2 (@lP _ _ _ _ _ _ (@eW _ _ _ _ _ bb (@eW _ _ _ _ _ (@pI _ _ _ _ (@ft _ _ _ _ bL (Zw) (Zv))) vp))) af) (Zv) (Zw) (Zw))) aR)))),?_⟩;refine⟨_,rfl,x,rfl,hx,fun H1 s1=>⟨_,rfl,?_⟩⟩;refine bB (fun h1=>?_) (fun h1=>?_)
  ·have h1:(!(vx x))=true:=h1;exact⟨g7,bad (by simp[j5,(Bool.not_eq_true' _).mp h1]) H1 s1⟩
  have h1:¬(!(vx x))=true:=h1;have h1:vx x=true:=by simpa using h1
  refine⟨_,rfl,y,rfl,hy,fun H2 s2=>⟨_,rfl,?_⟩⟩;have s2:=s1.trans s2;refine bB (fun h2=>?_) (fun h2=>?_)
  ·have h2:(!(vx y))=true:=h2;exact⟨g7,bad (by simp[j5,(Bool.not_eq_true' _).mp h2]) H2 s2⟩
  have h2:¬(!(vx y))=true:=h2;have h2:vx y=true:=by simpa using h2
  refine⟨_,rfl,_,rfl,rfl,_,rfl,?_⟩;refine bB (fun h3=>?_) (fun h3=>?_)
  ·have h3:x=y:=by simpa using h3
   exact⟨g7,bad (by simp[j5,h3]) H2 s2⟩
  have h3:¬x=y:=by simpa using h3
  refine⟨_,rfl,0,p,999999,rfl,_,rfl,?_⟩;refine bB (fun h4=>?_) (fun h4=>?_)
  ·have h4:(!(inR 0 p 999999))=true:=h4;have z1:=nU (i:=999999) (by lia);have w1:(Str.ofString "the price of a near form lies between 0 and ").length=44:=by decide+kernel
   have w3:=lQ;refine⟨_,rfl,ax ?_, .inr ⟨999999,rfl,z1.1,_,rfl,ax ?_,ax ?_,g7,?_⟩⟩
   ·rw[len_app];lia
   ·rw[len_app,len_app];lia
   ·rw[len_app,len_app];lia
   ·exact bad (by simp[j5,(Bool.not_eq_true' _).mp h4]) H2 s2
  ·have h4:¬(!(inR 0 p 999999))=true:=h4;have h4:inR 0 p 999999=true:=by simpa using h4
   exact good (by simp[j5,h1,h2,h3,h4]) H2 s2
variable(hV:CH mg "NEAR_MOST" (.int 60))
variable(eA:cK P w K mg base true 3 "check_near_form" ["x","y","price"] (vz bF))
theorem eP:aJ ["near","prices","x","y","price"] ["near"] (ao gP):=iV
include T bA hV eA in
theorem sU{f:Addr}{fd:FuncData}(F:lO K "near_prices" "near_prices" gP f fd):bf P w K mg base (dD P w) true 4 f fd ["near"] (pK bF):=by
 refine F.iL eP Zs iW
 ·obtain⟨a,xs,fs,rfl,_⟩:=h;rfl
 ·obtain⟨a,xs,fs,rfl,ha,ht,MI,q⟩:=h;have bad:fg fs=false→∀H',ar H H'→E (.ref bF) none H':=fun e=>by rw[e]at q;exact q
  have good:fg fs=true→∀H' d,ar H H'→H d=none→H' d=some (.dT (fs.map kZ))→Q (.ref d) H':=fun e=>by rw[e]at q;exact q
  have hu:=hr.units;have hu:(A.deeper (PyProof.Rows.envOfC "near_prices" (ao gP) s.heap.objs.size f gw)).units+1<cLine:=by lia
  refine⟨_,(Zn (Zm (@aZ _ _ _ _ _ _ _ _ qy (Y4 (aK K) T.d6 PyProof.Rows.Boot.«len» (Y2 (pv 0) af)) (@ft _ _ _ _ hV (Zw) (Zv)) (aY _)) (Zg (@iK _ _ _ _ _ _ _ _ _ _ hX Zt (by exact rfl) bA.m bA.e (Y2 (@lP _ _ _ _ _ _ (@eW _ _ _ _ _ bb (@eW _ _ _ _ _ (@pI _ _ _ _ (@ft _ _ _ _ hV (Zw) (Zv))) (@eW _ _ _ _ _ bb vp)))) af) (Zv) (Zw) (Zw))) aR) (Zn (Y3 (1) eP.nd kT) (Zn (@dI _ _ _ _ _ _ _ _ hX.own Zt (@cj _ K _ _ _ (pv 0) (Zw)) (@i8 _ K _ _ _ (3) _ (by exact rfl) (@cc _ _ _ _ _ (Y6 (2) eP.nd (Or.inl rfl)) (@cc _ _ _ _ _ (Y6 (3) eP.nd (Or.inl rfl)) (@cc _ _ _ _ _ (Y6 (4) eP.nd (Or.inl rfl)) i6 (Zw)) (Zw)) (Zw)) (Zw) (Zw) (Zw)) (Zn (@bg _ _ _ _ (Y5 eA hX.pass (Y2 (pv 2) (Y2 (pv 3) (Y2 (pv 4) af)))) (Zw)) (Zn (Zm (Zk (@rP _ _ _ _ _ hu (@e_ _ _ _ _ _ (Y2 (pv 2) (Y2 (pv 3) af))) (pv 1))) (Zg (@iK _ _ _ _ _ _ _ _ _ _ hX Zt (by exact rfl) bA.m bA.e (Y2 bb af) (Zv) (Zw) (Zw))) aR) (Zg (@lN _ _ _ _ _ _ _ _ _ hu (pv 1) (@e_ _ _ _ _ _ (Y2 (pv 2) (Y2 (pv 3) af))) (pv 4) (by exact rfl))))) (by intro _;rfl)) (Zg (@aQ _ _ _ _ (pv 1)))))),?_⟩;refine⟨_,rfl,a,_,rfl, .inl (.of ha),_,_,rfl,rfl,_,rfl,?_⟩;refine bB (fun h1=>?_) (fun h1=>?_)
  ·have h1:(60:Int)<(xs.length:Int):=by simpa using h1
   rw[ht.1]at h1;have z1:=nU (i:=60) (by lia);have w1:(Str.ofString "there are at most ").length=18:=by decide+kernel
   have w2:(Str.ofString " near forms").length=11:=by decide+kernel
   have w3:=lQ;refine⟨_,rfl,ax ?_, .inr ⟨60,rfl,z1.1,_,rfl,ax ?_,_,rfl,ax ?_,ax ?_,g7,?_⟩⟩
   ·rw[len_app];lia
   ·rw[len_app,len_app];lia
   ·rw[len_app,len_app,len_app];lia
   ·rw[len_app,len_app,len_app];lia
   ·exact bad (by have:¬fs.length≤60:=(by lia);simp[fg,this]) H (.refl H)
  have h1:¬(60:Int)<(xs.length:Int):=by simpa using h1
  rw[ht.1]at h1;refine fun d hd=>?_
  have YE:H a≠none:=by rw[ha];intro z;cases z
  have dE:a≠d:=aA ha hd;refine⟨_,rfl,a,rfl,⟨xs, .of (by rw[ai dE];exact ha)⟩,?_⟩;refine eF (xs:=xs) (fun i σ H'=>(∃u v w,σ=[sR a,sR d,u,v,w])∧H' d=some (.dT ((fs.take i).map kZ))∧ar H H'∧((fs.take i).all JR=true)∧((fs.take i).map me).Nodup) ?_ ?_ ?_ ?_
  ·exact⟨⟨_,_,_,rfl⟩,ae,ar.upd hd,rfl, .nil⟩
  ·rintro i σ H' hi ⟨_,_,s1,_⟩;exact .of (s1 _ _ ha)
  ·rintro i x σ H' hx ⟨⟨u,v,w,rfl⟩,hD,s1,bH,Fp⟩;have hi:i<fs.length:=by rw[←ht.1];exact(Y' hx).1
   have hf:fs[i]?=some fs[i]:=by simp[hi]
   generalize fs[i]=f0 at hf;obtain⟨t,E3,yx⟩:=ht.2 i f0 hf;rw[hx]at E3;cases E3;obtain⟨x,y,p⟩:=f0;have hm:(x,y,p)∈fs:=Zd hf;obtain⟨kW,RY⟩:=MI.2 _ hm;refine⟨t,_,rfl, .of (s1 _ _ yx),rfl,_,_,rfl,_,_,rfl,_,_,rfl,rfl,?_⟩;refine⟨_,rfl,_,rfl,_,rfl,x,y,p,rfl,kW,RY,?_⟩;refine bB (fun h2=>?_) (fun h2=>?_)
   rotate_left
   ·have h2:JR (x,y,p)=false:=by simpa[JR]using h2
    exact fun H2 s2=>bad (Dn hf h2) H2 (s1.trans s2)
   have h2:JR (x,y,p)=true:=h2;intro H2 s2;have Ph:=s1.trans s2;have mG:=s2 _ _ hD;refine⟨_,rfl,_,rfl,ax Zr,fun p1 Fn=>?_⟩;have n1:d≠p1:=aA mG Fn;refine⟨_,rfl,d,_,rfl, .t (k:=me (x,y,p)) (by rw[ai n1];exact mG) ae,_,rfl,?_⟩;refine bB (fun h3=>?_) (fun h3=>?_)
   ·obtain⟨v3,h3⟩:=Option.isSome_iff_exists.mp h3;exact⟨g7,bad (Bv hf (JS h3)) _ (Ph.fA (Ph.free Fn))⟩
   have h3:bu ((fs.take i).map kZ) (me (x,y,p))=none:=by simpa using h3
   have s3:ar H (upd H2 p1 (.tup [.str x, .str y])):=Ph.fA (Ph.free Fn);refine⟨_,rfl,_,rfl,_,rfl,_,rfl,ax Zr,fun p2 Fg=>?_⟩;have Z0:upd H2 p1 (.tup [.str x, .str y]) d=some (.dT ((fs.take i).map kZ)):=by rw[ai n1];exact mG
   have n2:d≠p2:=aA Z0 Fg;have hlen:((fs.take i).map kZ).length<sizeLine:=bh (by rw[List.length_map,List.length_take];lia);refine⟨d,_,rfl, .t (k:=me (x,y,p)) (by rw[ai n2];exact Z0) ae hlen,?_⟩;refine⟨⟨_,_,_,rfl⟩,?_,?_,?_,?_⟩
   ·rw[ae,rM _ h3,Bw hf];rfl
   ·exact(s3.fA (s3.free Fg)).fA hd
   ·rw[List.take_succ,hf,List.all_append,bH];simp[h2]
   ·rw[List.take_succ,hf,List.map_append];have:=M8 h3;refine List.nodup_append.mpr ⟨Fp,Zx,?_⟩;intro a1 DY b1 uZ e;have uZ:b1=me (x,y,p):=by simpa using uZ
    rw[e,uZ]at DY;exact this DY
  ·rintro σ H' ⟨⟨u,v,w,rfl⟩,hD,s1,bH,Fp⟩;rw[ht.1,List.take_length]at hD bH Fp;refine⟨_,rfl,good ?_ H' d s1 hd hD⟩;have:fs.length≤60:=by lia
   simp[fg,this,bH,Fp]
variable(jc:CH mg "PART_MOST" (.int 100))
variable(ck:cK P w K mg base true 2 "check_number" ["name","number","low","high"] (pJ bK))
variable(gR:cK P w K mg base true 4 "near_prices" ["near"] (pK bF))
variable(Tc:Dp K aU)
theorem ot:aJ ["self","same","out","into","least","part","near"] ["self","same","out","into","least","part","near"] (ao bq):=iV
include T bL jc ck gR Tc in
theorem ou{f:Addr}{fd:FuncData}(F:ig K "__init__" "Terms.__init__" bq f fd):bf P w K mg base (dD P w) true 5 f fd ["self","same","out","into","least","part","near"] (rq aU bK bF):=by
 refine F.iL ot Zs iW
 ·obtain⟨x,dx,n,nv,xs,fs,rfl,_⟩:=h;rfl
 ·obtain⟨x,dx,n,nv,xs,fs,rfl,hx,Fh,W4,MI,q⟩:=h;have bad:iM n=false→E (.ref bK) none H:=fun e=>by rw[e]at q;exact q H .refl
  refine⟨_,(Zn (@bg _ _ _ _ (Y5 ck hX.pass (Y2 bb (Y2 (pv 1) (Y2 aq (Y2 (@ft _ _ _ _ bL (Zw) (Zv)) af))))) (Zw)) (Zn (@bg _ _ _ _ (Y5 ck hX.pass (Y2 bb (Y2 (pv 2) (Y2 aq (Y2 (@ft _ _ _ _ bL (Zw) (Zv)) af))))) (Zw)) (Zn (@bg _ _ _ _ (Y5 ck hX.pass (Y2 bb (Y2 (pv 3) (Y2 aq (Y2 (@ft _ _ _ _ bL (Zw) (Zv)) af))))) (Zw)) (Zn (@bg _ _ _ _ (Y5 ck hX.pass (Y2 bb (Y2 (pv 4) (Y2 aq (Y2 (@ft _ _ _ _ bL (Zw) (Zv)) af))))) (Zw)) (Zn (@bg _ _ _ _ (Y5 ck hX.pass (Y2 bb (Y2 (pv 5) (Y2 aq (Y2 (@ft _ _ _ _ jc (Zw) (Zv)) af))))) (Zw)) (Zn (Zo K (pv 0) (pv 1)) (Zn (Zo K (pv 0) (pv 2)) (Zn (Zo K (pv 0) (pv 3)) (Zn (Zo K (pv 0) (pv 4)) (Zn (Zo K (pv 0) (pv 5)) (Zf (Zo K (pv 0) (@kO _ _ _ _ _ _ _ _ (Zk (@pB _ _ _ _ _ (pv 6))) (@bS _ _ _ _ af) (@Be _ _ _ _ _ _ _ _ _ (tU K) (by exact rfl) T.r6 PyProof.Rows.Boot.«list» (Y2 (pv 6) af) (Zv) (Zv) (Zw) (Zw)))) (Zg (Zo K (pv 0) (Y5 gR hX.pass (Y2 (Y7 K (pv 0)) af))))))))))))))),?_⟩;refine⟨_,rfl,"same",n.same,1,999999,rfl,by decide+kernel,by lia,by lia,?_⟩;refine bB (fun h1=>?_) (fun h1=>bad (by simp[iM,h1]));refine⟨_,rfl,"out",n.out,0,999999,rfl,by decide+kernel,by lia,by lia,?_⟩;refine bB (fun h2=>?_) (fun h2=>bad (by simp[iM,h2]));refine⟨_,rfl,"into",n.into,0,999999,rfl,by decide+kernel,by lia,by lia,?_⟩;refine bB (fun h3=>?_) (fun h3=>bad (by simp[iM,h3]));refine⟨_,rfl,"least",n.least,1,999999,rfl,by decide+kernel,by lia,by lia,?_⟩;refine bB (fun h4=>?_) (fun h4=>bad (by simp[iM,h4]));refine⟨_,rfl,"part",n.part,1,100,rfl,by decide+kernel,by lia,by lia,?_⟩;refine bB (fun h5=>?_) (fun h5=>bad (by simp[iM,h5]));have bH:iM n=true:=by simp[iM,h1,h2,h3,h4,h5]
  rw[bH]at q;have hl:∀k:Nat,k<10→k<1000:=fun k h=>by lia
  refine⟨_,rfl,_,rfl,x,aU,dx,_,rfl,hx,Tc.cl,Tc.same,Zv,?_⟩;refine⟨_,rfl,_,rfl,x,aU,dx,_,rfl,ae,Tc.cl,Tc.out,?_,?_⟩
  ·exact hl _ (by have:=aW "same" (.int n.same) [];simp at this;lia)
  refine⟨_,rfl,_,rfl,x,aU,dx,_,rfl,ae,Tc.cl,Tc.into,?_,?_⟩
  ·exact hl _ (Nat.lt_of_le_of_lt (aW _ _ _) (by have:=aW "same" (.int n.same) [];simp at this;lia))
  refine⟨_,rfl,_,rfl,x,aU,dx,_,rfl,ae,Tc.cl,Tc.least,?_,?_⟩
  ·show([("same", .int n.same),("out", .int n.out),("into", .int n.into)]:List (Str×V)).length<1000;simp
  refine⟨_,rfl,_,rfl,x,aU,dx,_,rfl,ae,Tc.cl,Tc.part,?_,?_⟩
  ·show([("same", .int n.same),("out", .int n.out),("into", .int n.into),("least", .int n.least)]:List (Str×V)).length<1000;simp
  rw[fQ,fQ,fQ,fQ,Q7];have b5:SameBut x H (upd H x (.ins aU dx (mE n))):=SameBut.refl.upd;refine⟨fun σ H'=>σ=[sR x,sI n.same,sI n.out,sI n.into,sI n.least,sI n.part,some nv]∧∃l,H' x=some (.ins aU dx (bo "near" (.ref l) (mE n)))∧SameBut x H H'∧H' l=some (.lst xs)∧kz H' xs fs∧H l=none,?_,?_⟩
  ·refine⟨_,rfl,_,rfl,?_⟩;rcases W4 with⟨rfl,rfl,rfl⟩|⟨a,rfl,ha,Pj⟩
   ·refine jH ?_;refine⟨ax Zr,fun l AU=>?_⟩;have n1:x≠l:=aA ae AU;refine⟨_,rfl,x,aU,dx,_,rfl,by rw[ai n1,ae],Tc.cl,Tc.near,by simp[mE],rfl,l,ae,?_,?_, .nil,?_⟩
    ·exact(b5.laid (b5.free ae AU)).upd
    ·rw[ai (Ne.symm n1),ae]
    ·exact b5.free ae AU
   ·refine bB (fun hh=>absurd hh Zr) (fun _=>?_);have n0:a≠x:=iI ha hx (by intro z;cases z);refine⟨_,rfl,a,xs,rfl, .inl (.of (by rw[ai n0];exact ha)),fun l AU=>?_⟩;have n1:x≠l:=aA ae AU;have b6:SameBut x H (upd (upd H x (.ins aU dx (mE n))) l (.lst xs)):=b5.laid (b5.free ae AU);refine⟨_,rfl,x,aU,dx,_,rfl,by rw[ai n1,ae],Tc.cl,Tc.near,by simp[mE],rfl,l,ae,b6.upd,?_,?_,?_⟩
    ·rw[ai (Ne.symm n1),ae]
    ·exact Pj.but b6.upd hx
    ·exact b5.free ae AU
  ·rintro σ H' ⟨rfl,l,tR,sb,Ir,Pj,W5⟩;refine⟨_,rfl,x,aU,dx,_,_,rfl,tR,Tc.cl,Tc.near,M_ n l,l,xs,fs,rfl,Ir,Pj,MI,?_⟩;refine bB (fun h6=>?_) (fun h6=>?_)
   ·rw[if_pos rfl,Zi h6]at q;intro H2 d s2 hd hD;have b2:=sb.same s2;have W6:=sb.free tR hd;refine⟨_,rfl,x,aU,dx,_,rfl,s2 _ _ tR,Tc.cl,Tc.Dq,?_,?_⟩
    ·have:=aW "near" (.ref l) (mE n);have e5:(mE n).length=5:=rfl;exact hl _ (by lia)
    ·have nl:l≠x:=iI Ir tR (by intro z;cases z);have nd:d≠x:=iI hD (s2 _ _ tR) (by intro z;cases z);have Uq:dx≠x:=iI Fh hx (by intro z;cases z);refine q _ l d b2.upd ⟨?_,?_,?_,?_,?_⟩ W5 W6
     ·rw[ae,Q8]
     ·rw[ai Uq];exact b2 _ _ Uq Fh
     ·rw[ai nl];exact s2 _ _ Ir
     ·exact Pj.but (SameBut.upd (fun b u n e=>s2 b u e)) tR
     ·rw[ai nd];exact hD
   ·rw[if_pos rfl,Ze h6]at q;exact fun H2 s2=>q H2 (sb.same s2)
theorem iq:aJ ["self","x","y","price"] ["self","x","y"] (ao dJ):=iV
include T Tc in
theorem mh{f:Addr}{fd:FuncData}(F:ig K "pair_worth" "Terms.pair_worth" dJ f fd):bf P w K mg base (dD P w) true 1 f fd ["self","x","y"] (vD aU):=by
 refine F.iL iq Zs iW
 ·obtain⟨t,x,y,n,fs,dx,l,d,xs,rfl,_⟩:=h;rfl
 ·obtain⟨t,x,y,n,fs,dx,l,d,xs,rfl,T1,q⟩:=h;have hu:=hr.units;have hu:(A.deeper (PyProof.Rows.envOfC "Terms.pair_worth" (ao dJ) s.heap.objs.size f gw)).units+1<cLine:=by lia
  refine⟨_,(Zn (Zm (@aZ _ _ _ _ _ _ _ _ jD (pv 1) (pv 2) (aY _)) (Zg (@aQ _ _ _ _ (Y7 K (pv 0)))) aR) (Zn (Y3 (3) iq.nd (@CQ _ _ _ _ _ _ _ hu (Y7 K (pv 0)) (@e_ _ _ _ _ _ (Y2 (pv 1) (Y2 (pv 2) af))) ⟨rfl,rfl,rfl,rfl⟩)) (Zn (Zm (Zk (@pB _ _ _ _ _ (pv 3))) (Zg (@aQ _ _ _ _ jY)) aR) (Zg (@aQ _ _ _ _ (Za cG (Y7 K (pv 0)) (pv 3))))))),?_⟩;refine⟨_,rfl,_,rfl,rfl,_,rfl,?_⟩;refine bB (fun h=>?_) (fun h=>?_)
  ·have h:x=y:=by simpa using h
   have q:=q H (.refl H);rw[show jJ n.same fs x y=some n.same by simp[jJ,h]]at q;exact⟨_,rfl,t,aU,dx,_,_,rfl,T1.ob,Tc.cl,Tc.same,Dt n l d,q⟩
  have h:¬x=y:=by simpa using h
  refine⟨_,rfl,t,aU,dx,_,_,rfl,T1.ob,Tc.cl,Tc.Dq,Du n l d,d,rfl, .inr ⟨_, .inl T1.di⟩,_,rfl,_,rfl,ax Zr,fun p hp=>?_⟩;have nd:d≠p:=aA T1.di hp;have q:=q _ (ar.upd (o:= .tup [.str x, .str y]) hp);refine⟨_, .t (k:=[.inr x, .inr y]) (by rw[ai nd];exact T1.di) ae,?_⟩;rw[uR];have T2:j6 (upd H p (.tup [.str x, .str y])) aU t n fs dx l d xs:=⟨ar.upd hp _ _ T1.ob,ar.upd hp _ _ T1.own,ar.upd hp _ _ T1.li,T1.tr.same (ar.upd hp),ar.upd hp _ _ T1.di⟩
  cases e:nV fs x y with
  |none=>
   rw[show jJ n.same fs x y=none by simp[jJ,h,e]]at q;refine⟨_,rfl,_,rfl,?_⟩;exact jH q
  |some v=>
   rw[show jJ n.same fs x y=some (n.same-v) by simp[jJ,h,e]]at q;refine⟨_,rfl,_,rfl,?_⟩;refine bB (fun hh=>absurd hh Zr) (fun _=>?_);exact⟨_,rfl,t,aU,dx,_,_,rfl,T2.ob,Tc.cl,Tc.same,Dt n l d,_,rfl,_,_,rfl,rfl,q⟩
theorem xV:aJ ["numbers"] ["numbers"] (ao kc):=iV
include T in
theorem xW{f:Addr}{fd:FuncData}(F:lO K "greatest" "greatest" kc f fd):bf P w K mg base (dD P w) true 1 f fd ["numbers"] k_:=by
 refine F.iL xV Zs iW
 ·obtain⟨a,os,rfl,_⟩:=h;rfl
 ·obtain⟨a,os,rfl,ha,hl,q⟩:=h;refine⟨_,(Zg (@aQ _ _ _ _ (@Gx _ K _ _ _ _ _ _ _ (by exact rfl) (by exact rfl) T.HR (@gM _ _ _ _ _ _ _ _ _ _ _ _ _ _ (by exact rfl) (show ba ["numbers"] (ao kc) _ ["number"] [] []from AS) (@cj _ K _ _ _ (pv 0) (Zw)) (fun _ _ _ _ _=>(Y6 (0) (show(["number"]:List Str).Nodup by decide+kernel) (Or.inl rfl))) (fun _ _ _ _ _=>(@z9 _ _ _ (Zk (@ve _ _ _ _ _ (pv 0))))) (fun _ _ _ _ _=>(pv 0)) (by intro _;rfl)) (Zw) (Zw)))),?_⟩;refine⟨_,rfl,a,rfl,⟨_, .of ha⟩,fun D hD=>?_⟩;refine iF (xs:=os.map bJ) (fun i ys a7 H'=>(∃u,a7=[u])∧ys=((os.take i).filterMap id).map V.int∧H' D=some (.lst ys)∧ar H H') ⟨⟨_,rfl⟩,rfl,ae,ar.upd hD⟩ ?_ ?_ ?_
  ·rintro i ys a7 H' _ ⟨_,_,_,s1⟩;exact .of (s1 _ _ ha)
  ·rintro i x ys a7 H' hx ⟨⟨u,rfl⟩,rfl,u0,s1⟩;have hi:i<os.length:=by have:=(Y' hx).1;simpa using this
   have ho:os[i]?=some os[i]:=by simp[hi]
   generalize os[i]=o at ho;have ex:x=bJ o:=by
    rw[List.getElem?_map,ho]at hx;exact(Zp hx).symm
   subst ex;have ie:(((os.take i).filterMap id).map V.int).length<sizeLine:=bh (by
    have:=List.length_filterMap_le id (os.take i);rw[List.length_take]at this;rw[List.length_map]
    lia)
   have e1:os.take (i+1)=os.take i++[o]:=by rw[List.take_succ,ho];rfl
   refine⟨_,rfl,_,rfl,?_⟩;cases o with
   |none=>
    refine bB (fun hh=>absurd hh (by simp[bJ])) (fun _=>?_);exact⟨⟨_,rfl⟩,by rw[e1];simp,u0,s1⟩
   |some v=>
    refine bB (fun _=>?_) (fun hh=>absurd (by simp[bJ]) hh);exact⟨_,rfl,u0,ie,⟨_,rfl⟩,by rw[e1];simp[bJ],ae,s1.fA hD⟩
  ·rintro ys a7 H' ⟨_,rfl,u0,s1⟩;rw[List.length_map,List.take_length]at u0;refine⟨D,os.filterMap id,rfl, .of u0,?_⟩;rw[Gz];exact q H' s1
theorem Ha:aJ ["number","price"] ["number","price"] (ao ZD):=iV
include T in
theorem Hb{f:Addr}{fd:FuncData}(F:lO K "less" "less" ZD f fd):bf P w K mg base (dD P w) true 1 f fd ["number","price"] vI:=by
 refine F.iL Ha Zs iW
 ·obtain⟨o,p,rfl,_⟩:=h;rfl
 ·obtain⟨o,p,rfl,q⟩:=h;refine⟨_,(Zg (@aQ _ _ _ _ (@kO _ _ _ _ _ _ _ _ (Zk (@pB _ _ _ _ _ (pv 0))) jY (Za cG (pv 0) (pv 1))))),?_⟩;refine⟨_,rfl,_,rfl,?_⟩;cases o with
  |none=>
   refine jH ?_;exact q
  |some v=>
   refine bB (fun hh=>absurd hh (by simp[bJ])) (fun _=>?_);exact⟨_,rfl,_,rfl,_,_,rfl,rfl,q⟩
theorem mi:aJ ["worth","brought"] ["worth","brought"] (ao fB):=iV
include T in
theorem mj{f:Addr}{fd:FuncData}(F:lO K "begun_or_gone_on" "begun_or_gone_on" fB f fd):bf P w K mg base (dD P w) true 1 f fd ["worth","brought"] yZ:=by
 refine F.iL mi Zs iW
 ·obtain⟨w,b,rfl,_⟩:=h;rfl
 ·obtain⟨w,b,rfl,q⟩:=h;refine⟨_,(Zn (Zm (Zk (@pB _ _ _ _ _ (pv 0))) (Zg (@aQ _ _ _ _ jY)) aR) (Zn (Zm (@PW.pt _ _ _ (@pw_or _ _ _ _ _ _ _ (Zk (@pB _ _ _ _ _ (pv 1))) (@pw_or1 _ _ _ _ (@aZ _ _ _ _ _ _ _ _ xb (pv 1) aq (aY _))))) (Zg (@aQ _ _ _ _ (pv 0))) aR) (Zg (@aQ _ _ _ _ (Za c_ (pv 0) (pv 1)))))),?_⟩;refine⟨_,rfl,_,rfl,?_⟩;cases w with
  |none=>
   refine jH ?_;exact q
  |some w=>
   refine bB (fun hh=>absurd hh (by simp[bJ])) (fun _=>?_);refine⟨_,rfl,_,rfl,?_⟩;cases b with
   |none=>
    refine jH ?_;refine jH ?_;exact⟨_,rfl,q⟩
   |some b=>
    refine bB (fun hh=>absurd hh (by simp[bJ])) (fun _=>?_);refine⟨_,rfl,_,_,rfl,rfl,_,rfl,?_⟩;refine bB (fun hh=>?_) (fun hh=>?_)
    ·have hh:b<0:=by simpa using hh
     simp only[Gy,hh,if_true]at q;exact⟨_,rfl,q⟩
    ·have hh:¬b<0:=by simpa using hh
     simp only[Gy,hh,if_false]at q;exact⟨_,rfl,_,rfl,_,_,rfl,rfl,q⟩
variable(eQ:cK P w K mg base true 1 "greatest" ["numbers"] k_)
variable(kh:cK P w K mg base true 1 "less" ["number","price"] vI)
variable(Rc:Al K av)
theorem b_:aJ ["self","ended","above","row","j","worth"] ["self","ended","above"] (ao du):=iV
include T eQ kh Rc in
theorem jz{f:Addr}{fd:FuncData}(F:ig K "brought_behind" "Trails.brought_behind" du f fd):bf P w K mg base (dD P w) true 2 f fd ["self","ended","above"] (pN av):=by
 refine F.iL b_ Zs iW
 ·obtain⟨x,e,a,dx,te,tb,o,p,m,f,g,rfl,_⟩:=h;rfl
 ·obtain⟨x,e,a,dx,te,tb,o,p,m,f1,g,rfl,hx,he,ha,hm,q⟩:=h;refine⟨_,(Zn (Y3 (3) b_.nd (@bS _ _ _ _ (Y2 jY af))) (Zn (@dI _ _ _ _ _ _ _ _ hX.own Zt (@nX _ K _ _ _ _ _ _ _ (by exact rfl) T.i9 (Y2 (pv 1) af) (Zw) (Zw)) (@i8 _ K _ _ _ (2) _ (by exact rfl) (@cc _ _ _ _ _ (Y6 (4) b_.nd (Or.inl rfl)) (@cc _ _ _ _ _ (Y6 (5) b_.nd (Or.inl rfl)) i6 (Zw)) (Zw)) (Zw) (Zw) (Zw)) (Zg (@bg _ _ _ _ (Zc K PySem.F.plainAttrs_list PySem.F.slot_list_append PySem.F.type_list_append dh (pv 3) (Y2 (Y5 eQ aV (Y2 (@bS _ _ _ _ (Y2 (pv 5) (Y2 (Y5 kh aV (Y2 (Y8 (aG K) (pv 2) (Za c_ (pv 4) aq)) (Y2 (Y7 K (pv 0)) af))) (Y2 (Y5 kh aV (Y2 (Y8 (aG K) (pv 3) (pv 4)) (Y2 (Y7 K (pv 0)) af))) af)))) af)) af)) (Zw))) (by intro _;rfl)) (Zg (@aQ _ _ _ _ (pv 3))))),?_⟩;refine⟨ax Zr,fun r Fq=>?_⟩;refine⟨_,rfl,e,rfl,⟨_, .of (ar.upd Fq _ _ he)⟩,?_⟩;have hl:=cS m f1;refine xq (xs:=cR m f1) (fun i σ H'=>(∃u v,σ=[sR x,sR e,sR a,sR r,u,v])∧ar H H'∧H' r=some (.lst (cR (i+1) (qL f1 g o p)))) ?_ ?_ ?_ ?_
  ·exact⟨⟨_,_,rfl⟩,ar.upd Fq,by rw[ae];simp[cR,qL,bJ,List.range_succ]⟩
  ·rintro i σ H' _ ⟨_,s1,_⟩;exact .of (s1 _ _ he)
  ·rintro i v T' σ H' hv ⟨⟨u,u2,rfl⟩,s1,yv⟩ hT;have hi:i<m:=by have:=(Y' hv).1;lia
   rw[cT hi]at hv;cases hv;have s2:ar H (upd H' T' (.tup [.int i,bJ (f1 i)])):=s1.trans (ar.upd hT);have vX:=ar.upd (o:= .tup [.int i,bJ (f1 i)]) hT _ _ yv;refine⟨T',_,rfl, .of ae,rfl,_,_,rfl,_,_,rfl,rfl,?_⟩;generalize upd H' T' (.tup [.int i,bJ (f1 i)])=H2 at s2 vX;have W7:tN (cR (m+1) g) ((i:Int)+1)=some (bJ (g (i+1))):=by
    have:((i:Int)+1)=((i+1:Nat):Int):=by lia
    rw[this];exact aF (cT Zq)
   have at2:tN (cR (i+1) (qL f1 g o p)) (i:Int)=some (bJ (qL f1 g o p i)):=aF (cT Zq);refine⟨_,rfl, .inl ⟨rfl,_, .of vX⟩,_,rfl,_,rfl,_,rfl,_,_,rfl,rfl,a,_,_,_,rfl,rfl, .of (s2 _ _ ha),W7,_,rfl,x,av,dx,_,_,rfl,s2 _ _ hx,Rc.cl,Rc.out,HX o p te tb,g (i+1),o,rfl,_,rfl,_,rfl,r,_,_,_,rfl,rfl, .of vX,at2,_,rfl,x,av,dx,_,_,rfl,s2 _ _ hx,Rc.cl,Rc.into,DE o p te tb,qL f1 g o p i,p,rfl,ax Zr,fun L hL=>⟨L,[f1 i,bx (g (i+1)) o,bx (qL f1 g o p i) p],rfl,ae,Zx,fun H3 s3=>?_⟩⟩;have s4:=(ar.upd (o:= .lst [bJ (f1 i),bJ (bx (g (i+1)) o),bJ (bx (qL f1 g o p i) p)]) hL).trans s3;exact⟨r,_,_,rfl,rfl,s4 _ _ vX,bh (by rw[cS];lia),⟨_,_,rfl⟩,(s2.trans s4).fA Fq,by rw[ae,pM (i+1)];rfl⟩
  ·rintro σ H' ⟨⟨u,v,rfl⟩,s1,yv⟩;rw[hl]at yv;exact⟨_,rfl,q H' r s1 Fq yv⟩
variable(dO:cK P w K mg base true 1 "begun_or_gone_on" ["worth","brought"] yZ)
variable(cq:dX P w K mg base true 2 av "brought_behind" ["self","ended","above"] (pN av))
theorem cI:aJ ["self","worths","terms","width","row","above","ended"] ["self","worths","terms"] (ao d8):=iV
include T Tc Rc dO cq in
theorem ni{f:Addr}{fd:FuncData}(F:ig K "__init__" "Trails.__init__" d8 f fd):bf P w K mg base (dD P w) true 4 f fd ["self","worths","terms"] (pV av aU):=by
 refine F.iL cI Zs iW
 ·obtain⟨x,dx,w,t,c,as,f,n,m,rfl,_⟩:=h;rfl
 ·obtain⟨x,dx,w,t,c,as,f1,n,m,rfl,hx,Fh,hw,TA,TF,hn,hm,q⟩:=h;obtain⟨nu,dt,l,d,vs,T1,e1,e2,e3,e4⟩:=TF;have RZ:w≠x:=iI hw hx (by intro z;cases z);have W8:t≠x:=fun z=>by
   have h1:=T1.ob;rw[z,hx]at h1;have h2:=congrArg (fun o=>match o with|some (HO.ins _ _ fs)=>fs.length| _=>0) h1;simp[vA]at h2
  refine⟨_,(Zf (Zo K (pv 0) (Y7 K (pv 2))) (Zf (Zo K (pv 0) (Y7 K (pv 2))) (Zf (Y3 (3) cI.nd (@kO _ _ _ _ _ _ _ _ (@aZ _ _ _ _ _ _ _ _ qy (Y4 (aK K) T.d6 PyProof.Rows.Boot.«len» (Y2 (pv 1) af)) aq (aY _)) (Y4 (aK K) T.d6 PyProof.Rows.Boot.«len» (Y2 (Y8 (aG K) (pv 1) aq) af)) aq)) (Zf (Zo K (pv 0) (@bS _ _ _ _ af)) (Zf (Zo K (pv 0) (@bS _ _ _ _ (Y2 (Za yN (@bS _ _ _ _ (Y2 jY af)) (Za c_ (pv 3) aq)) af))) (Zg (@dI _ _ _ _ _ _ _ _ hX.own Zt (@cj _ K _ _ _ (pv 1) (Zw)) (Y6 (4) cI.nd (Or.inl rfl)) (Zf (@aH _ _ (5) _ _ _ _ cI.nd Zt (Or.inr rfl) (Y8 (aG K) (Y7 K (pv 0)) (@qx _ _ _ _ _ _ kR aq)) (Zw) (by exact .inl rfl)) (Zf (@rm _ _ _ _ _ _ _ _ _ _ _ _ _ _ _ (6) _ _ (by exact rfl) cI.nd Zt (by exact rfl) (show ba ["self","worths","terms","width","row","above","ended"] (ao d8) _ ["j","worth"] [5] ["above"]from AS) (@nX _ K _ _ _ _ _ _ _ (by exact rfl) T.i9 (Y2 (pv 4) af) (Zw) (Zw)) (fun _ _ _ _ _=>(@i8 _ K _ _ _ (2) _ (by exact rfl) (@cc _ _ _ _ _ (Y6 (0) (show(["j","worth","above"]:List Str).Nodup by decide+kernel) (Or.inl rfl)) (@cc _ _ _ _ _ (Y6 (1) (show(["j","worth","above"]:List Str).Nodup by decide+kernel) (Or.inl rfl)) i6 (Zw)) (Zw)) (Zw) (Zw) (Zw))) (fun _ _ _ _ _=>fq) (fun _ _ _ _ _=>(Y5 dO aV (Y2 (pv 1) (Y2 (Y8 (aG K) (pv 2) (pv 0)) af)))) (Zw) (by intro _;rfl)) (Zf (@bg _ _ _ _ (Zc K PySem.F.plainAttrs_list PySem.F.slot_list_append PySem.F.type_list_append dh (Y7 K (pv 0)) (Y2 (pv 6) af)) (Zw)) (Zg (@bg _ _ _ _ (Zc K PySem.F.plainAttrs_list PySem.F.slot_list_append PySem.F.type_list_append dh (Y7 K (pv 0)) (Y2 (Zb (pv 0) cq (hr.mono (Zv)) aV (Y2 (pv 6) (Y2 (pv 5) af))) af)) (Zw)))))) (by intro _;rfl)))))))),?_⟩;refine⟨fun σ H1=>σ=[sR x,sR w,sR t,none,none,none,none]∧H1=upd H x (.ins av dx (bo "out" (.int c.out) [])),?_,?_⟩
  ·refine⟨_,rfl,t,aU,dt,_,_,rfl,T1.ob,Tc.cl,Tc.out,l_out nu l d,_,rfl,x,av,dx,_,rfl,hx,Rc.cl,Rc.out,Zv,rfl,?_⟩;rw[e2]
  rintro σ H1 ⟨rfl,rfl⟩;refine⟨fun σ H1=>σ=[sR x,sR w,sR t,none,none,none,none]∧H1=upd H x (.ins av dx (bo "into" (.int c.into) (bo "out" (.int c.out) []))),?_,?_⟩
  ·refine⟨_,rfl,t,aU,dt,_,_,rfl,by rw[ai W8];exact T1.ob,Tc.cl,Tc.into,JT nu l d,_,rfl,x,av,dx,_,rfl,ae,Rc.cl,Rc.into,?_,rfl,?_⟩
   ·have:=aW "out" (.int c.out) [];simp at this
    lia
   ·rw[fQ,e3]
  rintro σ H1 ⟨rfl,rfl⟩;refine⟨fun σ H1=>∃wd:Int,σ=[sR x,sR w,sR t,sI wd,none,none,none]∧H1=upd H x (.ins av dx (bo "into" (.int c.into) (bo "out" (.int c.out) [])))∧(0<n→wd=(m:Int))∧0≤wd∧wd≤1000,?_,?_⟩
  ·have xX:upd H x (.ins av dx (bo "into" (.int c.into) (bo "out" (.int c.out) []))) w=some (.lst (as.map V.ref)):=by rw[ai RZ];exact hw
   have AK:=TA.len;refine⟨_,rfl,w,_,rfl, .inl (.of xX),_,_,rfl,rfl,_,rfl,?_⟩;refine bB (fun hh=>?_) (fun hh=>?_)
   ·have hh:0<n:=by
     have:(0:Int)<((as.map V.ref).length:Int):=by simpa using hh
     rw[List.length_map]at this
     lia
    obtain⟨a,DY,Lx,Ur⟩:=TA.at hh;have N1:a≠x:=iI Ur hx (by intro z;cases z);have W9:upd H x (.ins av dx (bo "into" (.int c.into) (bo "out" (.int c.out) []))) a=some (.lst (cR m (f1 0))):=by rw[ai N1];exact Ur
    refine⟨_,rfl,w,_,0,_,rfl,rfl, .of xX,aF (j:=0) Lx,a,_,rfl, .inl (.of W9),_,rfl,rfl,fun _=>by rw[cS],by rw[cS];lia,by rw[cS];lia⟩
   ·have hh:n=0:=by
     have:¬(0:Int)<((as.map V.ref).length:Int):=by simpa using hh
     rw[List.length_map]at this
     lia
    exact⟨_,rfl,rfl,fun z=>by lia,by lia,by lia⟩
  rintro σ H1 ⟨wd,rfl,rfl,W_,YF,YG⟩;refine⟨fun σ H1=>∃e,σ=[sR x,sR w,sR t,sI wd,none,none,none]∧H1 x=some (.ins av dx (bo "ending" (.ref e) (bo "into" (.int c.into) (bo "out" (.int c.out) []))))∧SameBut x H H1∧H e=none∧H1 e=some (.lst []),?_,?_⟩
  ·refine⟨ax Zr,fun e he=>?_⟩;have wW:SameBut x H (upd H x (.ins av dx (bo "into" (.int c.into) (bo "out" (.int c.out) [])))):=SameBut.refl.upd;have Us:x≠e:=aA ae he;have Iv:=wW.free ae he;refine⟨_,rfl,x,av,dx,_,rfl,by rw[ai Us,ae],Rc.cl,Rc.j8,?_,e,rfl,ae,(wW.laid Iv).upd,Iv,by rw[ai (Ne.symm Us),ae]⟩;have a1:=aW "into" (.int c.into) (bo "out" (.int c.out) []);have a2:=aW "out" (.int c.out) [];simp at a2
   lia
  rintro σ H1 ⟨e,rfl,kW,wW,Iv,Z'⟩;refine⟨fun σ H2=>∃b ab,σ=[sR x,sR w,sR t,sI wd,none,none,none]∧H2 x=some (.ins av dx (gz c.out c.into e b))∧SameBut x H H2∧H2 e=some (.lst [])∧H b=none∧e≠b∧H2 b=some (.lst [.ref ab])∧(0<n→H2 ab=some (.lst (cR (m+1) (Bq f1 c.out c.into 0))))∧ab≠e∧ab≠b∧H ab=none,?_,?_⟩
  ·refine⟨ax Zr,fun l1 AU=>⟨_,rfl,_,_,rfl,rfl,l1,_,_,rfl,rfl,ae,by lia,by lia,ax (by simp;lia),fun ab Et=>⟨ax Zr,fun b hb=>?_⟩⟩⟩;have s1:ar H1 (upd (upd (upd H1 l1 (.lst [.cn])) ab (.lst (List.replicate (wd+1).toNat [V.cn]).flatten)) b (.lst [.ref ab])):=((ar.upd AU).trans (ar.upd Et)).trans (ar.upd hb);have uZ:H1 b=none:=((ar.upd AU).trans (ar.upd Et)).free hb;have Bo:=s1 _ _ kW;have W':x≠b:=aA kW uZ;have Iw:ab≠b:=aA ae hb;refine⟨_,rfl,x,av,dx,_,rfl,Bo,Rc.cl,Rc.i_,?_,b,ab,rfl,by rw[ae,Nj],(wW.same s1).upd,?_,wW.free kW uZ,aA Z' uZ,?_,fun h0=>?_,?_,Iw,wW.free kW ((ar.upd AU).free Et)⟩
   ·have a0:=aW "ending" (.ref e) (bo "into" (.int c.into) (bo "out" (.int c.out) []));have a1:=aW "into" (.int c.into) (bo "out" (.int c.out) []);have a2:=aW "out" (.int c.out) [];simp at a2
    lia
   ·have:e≠x:=iI Z' kW (by intro z;cases z);rw[ai this];exact s1 _ _ Z'
   ·rw[ai (Ne.symm W'),ae]
   ·have Ut:ab≠x:=fun z=>by rw[z]at Et;rw[(ar.upd AU) _ _ kW]at Et;cases Et
    rw[ai Ut,ai Iw,ae,W_ h0]
    congr 1
    have:((m:Int)+1).toNat=m+1:=by lia
    rw[this]
    congr 1
    apply List.ext_getElem?;intro k;by_cases hk:k<m+1
    ·rw[cT hk,iy];simp[bJ,hk]
    ·rw[List.getElem?_eq_none (by simp;lia),List.getElem?_eq_none (by rw[cS];lia)]
   ·exact Ne.symm (aA ((ar.upd AU) _ _ Z') Et)
  clear kW wW Z' H1;rintro σ H1 ⟨b,ab,rfl,kW,wW,Z',Uu,Uv,uZ,Hd,N2,Iw,Co⟩;refine⟨_,rfl,w,rfl,⟨_, .of (wW _ _ RZ hw)⟩,?_⟩;refine eF (xs:=as.map V.ref) (fun i σ H'=>(∃u1 u2 u3,σ=[sR x,sR w,sR t,sI wd,u1,u2,u3])∧H' x=some (.ins av dx (gz c.out c.into e b))∧SameBut x H H'∧∃(es:List Addr)(bs:List V)(ab:Addr),H' e=some (.lst (es.map V.ref))∧iN H' es (cZ f1 c.out c.into) i m∧(∀a∈es,H a=none∧a≠e∧a≠b∧a≠x)∧H' b=some (.lst (bs++[.ref ab]))∧bs.length=i∧(0<n→H' ab=some (.lst (cR (m+1) (Bq f1 c.out c.into i))))∧ab≠e∧ab≠b∧H ab=none∧∃bz:List Addr,bs=bz.map V.ref∧∀k a,bz[k]?=some a→H' a=some (.lst (cR (m+1) (Bq f1 c.out c.into k)))∧a≠e∧a≠b∧H a=none) ?_ ?_ ?_ ?_
  ·exact⟨⟨_,_,_,rfl⟩,kW,wW,[],[],ab,Z',⟨rfl,fun i a h=>by simp at h⟩,(fun a h=>by cases h),uZ,rfl,Hd,N2,Iw,Co,[],rfl,fun k a h=>by simp at h⟩
  ·rintro i σ H' _ ⟨_,_,sb,_⟩;exact .of (sb _ _ RZ hw)
  ·clear kW wW Z' uZ Hd N2 Iw Co ab H1;rintro i v σ H' hv ⟨⟨u1,u2,u3,rfl⟩,kW,wW,es,bs,ab,Z',TE,N3,uZ,KZ,Hd,N2,Iw,Co,bz,N4,BZ⟩;have AK:=TA.len;have hi:i<n:=by have:=(Y' hv).1;rw[List.length_map]at this;lia
   obtain⟨ra,Fq,yv,vX⟩:=TA.at hi;rw[yv]at hv;cases hv;have Xa:ra≠x:=iI vX hx (by intro z;cases z);have Pk:=wW _ _ Xa vX;have BV:=Hd Zq;refine⟨fun σ H2=>σ=[sR x,sR w,sR t,sI wd,sR ra,sR ab,u3]∧H2=H',?_,?_⟩
   ·exact⟨_,rfl,x,av,dx,_,_,rfl,kW,Rc.cl,Rc.i_,gF c.out c.into e b,_,rfl,b,_,_,_,rfl,rfl, .of uZ,xl _ _,rfl,rfl⟩
   rintro σ H' ⟨rfl,rfl⟩;refine⟨fun σ H2=>∃D,σ=[sR x,sR w,sR t,sI wd,sR ra,sR ab,sR D]∧ar H' H2∧H' D=none∧H2 D=some (.lst (cR m (cZ f1 c.out c.into i))),?_,?_⟩
   ·refine⟨_,rfl,ra,rfl,⟨_, .of Pk⟩,fun D hD=>?_⟩;refine uS (xs:=cR m (f1 i)) (fun j ys a7 H2=>(∃w1 w2,a7=[w1,w2,sR ab])∧ys=cR j (cZ f1 c.out c.into i)∧H2 D=some (.lst ys)∧ar H' H2) ⟨⟨_,_,rfl⟩,rfl,ae,ar.upd hD⟩ ?_ ?_ ?_
    ·rintro j ys a7 H2 _ ⟨_,_,_,s2⟩;exact .of (s2 _ _ Pk)
    ·rintro j y T2 ys a7 H2 hy ⟨⟨w1,w2,rfl⟩,rfl,mG,s2⟩ N5;have hj:j<m:=by have:=(Y' hy).1;rw[cS]at this;exact this
     rw[cT hj]at hy;cases hy;have s3:ar H' (upd H2 T2 (.tup [.int j,bJ (f1 i j)])):=s2.trans (ar.upd N5);have Z0:=ar.upd (o:= .tup [.int j,bJ (f1 i j)]) N5 _ _ mG;refine⟨T2,_,rfl, .of ae,rfl,_,_,rfl,_,_,rfl,rfl,?_⟩;refine rn ?_;refine⟨_,rfl,_,rfl,_,rfl,ab,_,_,_,rfl,rfl, .of (s3 _ _ BV),aF (cT Zq),f1 i j,Bq f1 c.out c.into i j,rfl,Z0,bh (by rw[cS];lia),⟨_,_,rfl⟩,by rw[pM];rfl,ae,s3.fA hD⟩
    ·rintro ys a7 H2 ⟨_,rfl,mG,s2⟩;rw[cS]at mG;exact⟨D,rfl,s2,hD,mG⟩
   rintro σ H2 ⟨D,rfl,s2,Pl,mG⟩;have Bo:=s2 _ _ kW;have LH:=s2 _ _ Z';have LF:=s2 _ _ uZ;have R0:=s2 _ _ BV;have Xb:D≠x:=Ne.symm (aA kW Pl);have Uw:D≠e:=Ne.symm (aA Z' Pl);have Ux:D≠b:=Ne.symm (aA uZ Pl);have Xc:e≠x:=iI Z' kW (by intro z;cases z);have Xd:b≠x:=iI uZ kW (by intro z;cases z);have Ut:ab≠x:=iI BV kW (by intro z;cases z);have He:=TE.len;have Xe:H D=none:=wW.free kW Pl;have R1:=wW.same s2;refine⟨fun σ H3=>σ=[sR x,sR w,sR t,sI wd,sR ra,sR ab,sR D]∧H3=upd H2 e (.lst (es.map V.ref++[.ref D])),?_,?_⟩
   ·exact⟨_,rfl,x,av,dx,_,_,rfl,Bo,Rc.cl,Rc.j8,g8 c.out c.into e b, .inl ⟨rfl,_, .of LH⟩,_,rfl,e,_,_,rfl,rfl,LH,bh (by rw[List.length_map];lia),rfl,rfl⟩
   rintro σ H3 ⟨rfl,rfl⟩;have Hf:upd H2 e (.lst (es.map V.ref++[.ref D])) x=some (.ins av dx (gz c.out c.into e b)):=by rw[ai (Ne.symm Xc)];exact Bo
   have Pn:upd H2 e (.lst (es.map V.ref++[.ref D])) b=some (.lst (bs++[.ref ab])):=by rw[ai (Ne.symm Uv)];exact LF
   have K0:upd H2 e (.lst (es.map V.ref++[.ref D])) ab=some (.lst (cR (m+1) (Bq f1 c.out c.into i))):=by rw[ai N2];exact R0
   have Z0:upd H2 e (.lst (es.map V.ref++[.ref D])) D=some (.lst (cR m (cZ f1 c.out c.into i))):=by rw[ai Uw];exact mG
   have Fs:upd H2 e (.lst (es.map V.ref++[.ref D])) e=some (.lst (es.map V.ref++[.ref D])):=ae;have R3:SameBut x H (upd H2 e (.lst (es.map V.ref++[.ref D]))):=R1.laid Iv;have Uy:∀k a,es[k]?=some a→upd H2 e (.lst (es.map V.ref++[.ref D])) a=some (.lst (cR m (cZ f1 c.out c.into k))):=fun k a hk=>by
    rw[ai (N3 a (Zd hk)).2.1];exact s2 _ _ (TE.row k a hk)
   have Uz:∀k a,bz[k]?=some a→upd H2 e (.lst (es.map V.ref++[.ref D])) a=some (.lst (cR (m+1) (Bq f1 c.out c.into k))):=fun k a hk=>by
    rw[ai (BZ k a hk).2.1];exact s2 _ _ (BZ k a hk).1
   generalize upd H2 e (.lst (es.map V.ref++[.ref D]))=H3 at Hf Pn K0 Z0 Fs R3 Uy Uz;refine⟨_,rfl,x,av,dx,_,_,rfl,Hf,Rc.cl,Rc.i_,gF c.out c.into e b, .inl ⟨rfl,_, .of Pn⟩,_,rfl,x,dx,_,rfl,Hf,DF c.out c.into e b,_,rfl,_,rfl,x,D,ab,dx,e,b,c.out,c.into,m,_,_,rfl,Hf,Z0,K0,hm,fun H4 r s4 qD Xf=>?_⟩;have UA:r≠b:=Ne.symm (aA Pn qD);have Xg:r≠e:=Ne.symm (aA Fs qD);refine⟨b,_,_,rfl,rfl,s4 _ _ Pn,bh (by rw[List.length_append];simp;lia),⟨_,_,_,rfl⟩,by rw[ai (Ne.symm Xd)];exact s4 _ _ Hf,(R3.same s4).laid Uu,es++[D],bs++[.ref ab],r,by rw[ai Uv];rw[s4 _ _ Fs];simp,⟨by simp[He],fun k a hk=>?_⟩,fun a ha=>?_,ae,by simp[KZ],fun _=>?_,Xg,UA,R3.free Hf qD,bz++[ab],by simp[N4],fun k a hk=>?_⟩
   ·by_cases h:k<i
    ·rw[List.getElem?_append_left Zq]at hk;rw[ai (N3 a (Zd hk)).2.2.1];exact s4 _ _ (Uy k a hk)
    ·rw[List.getElem?_append_right Zq]at hk;have yr:k-es.length=0:=by
      have:=(Y' hk).1;simp at this
      lia
     rw[yr]at hk;have:D=a:=by simpa using hk
     subst this;rw[ai Ux];have:k=i:=by lia
     rw[this];exact s4 _ _ Z0
   ·rcases List.mem_append.mp ha with ha|ha
    ·exact N3 a ha
    ·have:a=D:=by simpa using ha
     rw[this];exact⟨Xe,Uw,Ux,Xb⟩
   ·rw[ai UA,Xf]
    congr 2
    unfold cR;apply List.map_congr_left;intro j _;rw[Am]
   ·have N6:bz.length=i:=by rw[N4,List.length_map]at KZ;exact KZ
    by_cases h:k<i
    ·rw[List.getElem?_append_left Zq]at hk;obtain⟨_,z1,z2,z3⟩:=BZ k a hk;exact⟨by rw[ai z2];exact s4 _ _ (Uz k a hk),z1,z2,z3⟩
    ·rw[List.getElem?_append_right Zq]at hk;have yr:k-bz.length=0:=by
      have:=(Y' hk).1;simp at this
      lia
     rw[yr]at hk;have:ab=a:=by simpa using hk
     subst this;have:k=i:=by lia
     subst this;exact⟨by rw[ai Iw];exact s4 _ _ K0,N2,Iw,Co⟩
  ·rintro σ H' ⟨⟨u1,u2,u3,rfl⟩,Bo,R1,es,bs,R4,LH,TE,N3,LF,KZ,BV,Xh,Xi,Lx,bz,N4,BZ⟩;rw[List.length_map,TA.len]at TE KZ BV;have N6:bz.length=n:=by rw[N4,List.length_map]at KZ;exact KZ
   refine q H' e b R1 Bo ⟨es,LH,Iv,TE,fun a ha=>(N3 a ha).1⟩ fun R5=>⟨bz++[R4],by rw[LF,N4];simp,Uu,⟨by simp[N6],fun k a hk=>?_⟩,fun a ha=>?_⟩
   ·by_cases h:k<n
    ·rw[List.getElem?_append_left Zq]at hk;exact(BZ k a hk).1
    ·rw[List.getElem?_append_right Zq]at hk;have yr:k-bz.length=0:=by
      have:=(Y' hk).1;simp at this
      lia
     rw[yr]at hk;have:R4=a:=by simpa using hk
     subst this;have:k=n:=by lia
     subst this;exact BV R5
   ·rcases List.mem_append.mp ha with ha|ha
    ·obtain⟨k,hk,rfl⟩:=List.mem_iff_getElem.mp ha;exact(BZ k _ (by simp[hk])).2.2.2
    ·have:a=R4:=by simpa using ha
     rw[this];exact Lx
theorem jd:aJ ["self","pair","brought"] ["self","pair"] (ao gI):=iV
include T Rc in
theorem ow{f:Addr}{fd:FuncData}(F:ig K "goes_on" "Trails.goes_on" gI f fd):bf P w K mg base (dD P w) true 1 f fd ["self","pair"] (vN av):=by
 refine F.iL jd Zs iW
 ·obtain⟨x,dx,e,b,es,bs,f,o,p,n,m,pr,i,j,rfl,_⟩:=h;rfl
 ·obtain⟨x,dx,e,b,es,bs,f1,o,p,n,m,pr,i,j,rfl,TR,AV,hi,hj,q⟩:=h;refine⟨_,(Zn (Y3 (2) jd.nd (Y8 (aG K) (Y8 (aG K) (Y7 K (pv 0)) (Y8 (bN K) (pv 1) aq)) (Y8 (bN K) (pv 1) aq))) (Zg (@aQ _ _ _ _ (@pD _ _ _ _ _ _ _ (@Cv _ _ _ _ _ _ (@ve _ _ _ _ _ (pv 2)) (by first|exact cb _ (Zv) (Zv)|rfl)) (@pC _ _ _ _ _ (@ir _ _ _ _ _ _ _ _ Hz (pv 2) aq (aY _))))))),?_⟩;obtain⟨ra,h1,h2,h3⟩:=TR.tb.at (show i<n+1 by lia);refine⟨_,rfl,x,av,dx,_,_,rfl,TR.ob,Rc.cl,Rc.i_,gF o p e b,_,rfl,pr,_,_,_,rfl,rfl, .of AV,aF (j:=0) rfl,b,_,_,_,rfl,rfl, .of TR.hb,aF h2,_,rfl,pr,_,_,_,rfl,rfl, .of AV,aF (j:=1) rfl,ra,_,_,_,rfl,rfl, .of h3,aF (cT (show j<m+1 by lia)),?_⟩;refine⟨_,rfl,?_⟩;cases eB:Bq f1 o p i j with
  |none=>
   rw[eB]at q;exact⟨_,rfl,bB (fun hh=>absurd hh (by simp[bJ])) fun _=>q⟩
  |some v=>
   rw[eB]at q;exact⟨_,rfl,bB (fun _=>⟨_,rfl,_,_,rfl,rfl,q⟩) fun hh=>absurd (by simp[bJ]) hh⟩
theorem jP:aJ ["self","crossing","pair"] ["self","crossing","pair"] (ao dM):=iV
include T Rc in
theorem jQ{f:Addr}{fd:FuncData}(F:ig K "is_brought_by" "Trails.is_brought_by" dM f fd):bf P w K mg base (dD P w) true 1 f fd ["self","crossing","pair"] (ZC av):=by
 refine F.iL jP Zs iW
 ·obtain⟨x,dx,e,b,es,bs,f,o,p,n,m,cr,pr,i,j,k,l,rfl,_⟩:=h;rfl
 ·obtain⟨x,dx,e,b,es,bs,f1,o,p,n,m,cr,pr,i,j,k,l,rfl,TR,Iy,AV,hi,hj,hk,hl,q⟩:=h;refine⟨_,(Zg (@aQ _ _ _ _ (@ir _ _ _ _ _ _ _ _ jD (Y8 (aG K) (Y8 (aG K) (Y7 K (pv 0)) (Y8 (bN K) (pv 2) aq)) (Y8 (bN K) (pv 2) aq)) (Y8 (aG K) (Y8 (aG K) (Y7 K (pv 0)) (Y8 (bN K) (pv 1) aq)) (Y8 (bN K) (pv 1) aq)) (aY _)))),?_⟩;obtain⟨ra,h1,h2,h3⟩:=TR.tb.at (show i<n+1 by lia);obtain⟨rb,g1,g2,g3⟩:=TR.te.at hk;refine⟨_,rfl,x,av,dx,_,_,rfl,TR.ob,Rc.cl,Rc.j8,g8 o p e b,_,rfl,pr,_,_,_,rfl,rfl, .of AV,aF (j:=0) rfl,e,_,_,_,rfl,rfl, .of TR.he,aF g2,_,rfl,pr,_,_,_,rfl,rfl, .of AV,aF (j:=1) rfl,rb,_,_,_,rfl,rfl, .of g3,aF (cT hl),?_⟩;refine⟨_,rfl,x,av,dx,_,_,rfl,TR.ob,Rc.cl,Rc.i_,gF o p e b,_,rfl,cr,_,_,_,rfl,rfl, .of Iy,aF (j:=0) rfl,b,_,_,_,rfl,rfl, .of TR.hb,aF h2,_,rfl,cr,_,_,_,rfl,rfl, .of Iy,aF (j:=1) rfl,ra,_,_,_,rfl,rfl, .of h3,aF (cT (show j<m+1 by lia)),?_⟩;have IA:∀a c:Option Int,decide (bJ a=bJ c)=decide (a=c):=fun a c=>by cases a<;>cases c<;>simp[bJ]
  refine⟨by cases cZ f1 o p k l<;>cases Bq f1 o p i j<;>rfl,?_⟩;rw[IA];exact q
theorem bj:aJ ["self","crossing","i","j","brought","found"] ["self","crossing"] (ao cN):=iV
include T kh Rc in
theorem iR{f:Addr}{fd:FuncData}(F:ig K "crossings_before" "Trails.crossings_before" cN f fd):bf P w K mg base (dD P w) true 2 f fd ["self","crossing"] (sj av):=by
 refine F.iL bj Zs iW
 ·obtain⟨x,dx,e,b,es,bs,f,o,p,n,m,cr,i,j,rfl,_⟩:=h;rfl
 ·obtain⟨x,dx,e,b,es,bs,f1,o,p,n,m,cr,i,j,rfl,TR,Iy,hi,hj,q⟩:=h;refine⟨_,(Zf (Y3 (2) bj.nd (Y8 (bN K) (pv 1) aq)) (Zf (Y3 (3) bj.nd (Y8 (bN K) (pv 1) aq)) (Zf (Y3 (4) bj.nd (Y8 (aG K) (Y8 (aG K) (Y7 K (pv 0)) (pv 2)) (pv 3))) (Zf (Y3 (5) bj.nd (@bS _ _ _ _ af)) (Zf (Zm (@aZ _ _ _ _ _ _ _ _ jD (Y5 kh aV (Y2 (Y8 (aG K) (Y8 (aG K) (Y7 K (pv 0)) (Za cG (pv 2) aq)) (pv 3)) (Y2 (Y7 K (pv 0)) af))) (pv 4) (aY _)) (Zg (@bg _ _ _ _ (Zc K PySem.F.plainAttrs_list PySem.F.slot_list_append PySem.F.type_list_append dh (pv 5) (Y2 (@e_ _ _ _ _ _ (Y2 (Za cG (pv 2) aq) (Y2 (pv 3) af))) af)) (Zw))) aR) (Zf (Zm (@aZ _ _ _ _ _ _ _ _ jD (Y5 kh aV (Y2 (Y8 (aG K) (Y8 (aG K) (Y7 K (pv 0)) (pv 2)) (Za cG (pv 3) aq)) (Y2 (Y7 K (pv 0)) af))) (pv 4) (aY _)) (Zg (@bg _ _ _ _ (Zc K PySem.F.plainAttrs_list PySem.F.slot_list_append PySem.F.type_list_append dh (pv 5) (Y2 (@e_ _ _ _ _ _ (Y2 (pv 2) (Y2 (Za cG (pv 3) aq) af))) af)) (Zw))) aR) (Zg (@aQ _ _ _ _ (pv 5))))))))),?_⟩;have IA:∀a c:Option Int,decide (bJ a=bJ c)=decide (a=c):=fun a c=>by cases a<;>cases c<;>simp[bJ]
  obtain⟨ra,h1,h2,h3⟩:=TR.tb.at (show i<n+1 by lia);obtain⟨rb,g1,g2,g3⟩:=TR.tb.at (show i+1<n+1 by lia);refine⟨fun σ H1=>σ=[sR x,sR cr,sI (((i+1:Nat):Int)),none,none,none]∧H1=H,⟨_,rfl,cr,_,_,_,rfl,rfl, .of Iy,aF (j:=0) rfl,rfl,rfl⟩,?_⟩;rintro σ H ⟨rfl,rfl⟩;refine⟨fun σ H1=>σ=[sR x,sR cr,sI (((i+1:Nat):Int)),sI (((j+1:Nat):Int)),none,none]∧H1=H,⟨_,rfl,cr,_,_,_,rfl,rfl, .of Iy,aF (j:=1) rfl,rfl,rfl⟩,?_⟩;rintro σ H ⟨rfl,rfl⟩;refine⟨fun σ H1=>σ=[sR x,sR cr,sI (((i+1:Nat):Int)),sI (((j+1:Nat):Int)),some (bJ (Bq f1 o p (i+1) (j+1))),none]∧H1=H,⟨_,rfl,x,av,dx,_,_,rfl,TR.ob,Rc.cl,Rc.i_,gF o p e b,_,rfl,b,_,_,_,rfl,rfl, .of TR.hb,aF g2,_,rfl,rb,_,_,_,rfl,rfl, .of g3,aF (cT (show j+1<m+1 by lia)),rfl,rfl⟩,?_⟩;rintro σ H ⟨rfl,rfl⟩;refine⟨fun σ H1=>∃r,σ=[sR x,sR cr,sI (((i+1:Nat):Int)),sI (((j+1:Nat):Int)),some (bJ (Bq f1 o p (i+1) (j+1))),sR r]∧ar H H1∧H r=none∧H1 r=some (.lst []),⟨ax Zr,fun r hr=>⟨r,rfl,ar.upd hr,hr,ae⟩⟩,?_⟩;rintro σ H1 ⟨r,rfl,s1,qD,Fq⟩;refine⟨fun σ H2=>∃us,σ=[sR x,sR cr,sI (((i+1:Nat):Int)),sI (((j+1:Nat):Int)),some (bJ (Bq f1 o p (i+1) (j+1))),sR r]∧ar H H2∧H2 r=some (.lst us)∧fO H2 us (if bx (Bq f1 o p i (j+1)) o=Bq f1 o p (i+1) (j+1)then[((i:Int),((j+1:Nat):Int))]else[]),?_,?_⟩
  ·have T1:=TR.keep s1;have ea:tN (bs.map V.ref) (((i+1:Nat):Int)-1)=some (.ref ra):=by
    rw[show((i+1:Nat):Int)-1=(i:Int) by lia];exact aF h2
   refine⟨_,rfl,x,av,dx,_,_,rfl,T1.ob,Rc.cl,Rc.i_,gF o p e b,_,rfl,_,_,rfl,rfl,b,_,_,_,rfl,rfl, .of T1.hb,ea,_,rfl,ra,_,_,_,rfl,rfl, .of (s1 _ _ h3),aF (cT (show j+1<m+1 by lia)),?_⟩;refine⟨_,rfl,x,av,dx,_,_,rfl,T1.ob,Rc.cl,Rc.out,HX o p e b,Bq f1 o p i (j+1),o,rfl,?_⟩;refine⟨_,rfl,by cases bx (Bq f1 o p i (j+1)) o<;>cases Bq f1 o p (i+1) (j+1)<;>rfl,_,rfl,?_⟩;rw[IA];refine bB (fun hh=>?_) (fun hh=>?_)
   ·have hh:bx (Bq f1 o p i (j+1)) o=Bq f1 o p (i+1) (j+1):=of_decide_eq_true hh;rw[Zi hh];refine⟨_,rfl, .inl ⟨rfl,_, .of Fq⟩,_,rfl,_,_,rfl,rfl,_,rfl,ax Zr,fun t ht=>?_⟩;refine⟨r,_,_,rfl,rfl,ar.upd ht _ _ Fq,bh Zr,_,rfl,(s1.trans (ar.upd ht)).fA qD,ae,rfl,fun k f hf=>?_⟩;have hk:k=0:=by
     have:=(Y' hf).1;simp at this
     lia
    subst hk;have hf:((i:Int),((j+1:Nat):Int))=f:=by simpa using hf
    subst hf;refine⟨t,rfl,?_⟩;rw[ai (fun z=>by subst z;rw[Fq]at ht;cases ht),ae];rw[show((i+1:Nat):Int)-1=(i:Int) by lia];rfl
   ·have hh:¬bx (Bq f1 o p i (j+1)) o=Bq f1 o p (i+1) (j+1):=by simpa using hh
    rw[Ze hh];exact⟨[],rfl,s1,Fq, .nil⟩
  rintro σ H2 ⟨us,rfl,s2,yv,P2⟩;have T2:=TR.keep s2;have YH:us.length≤1:=by
   rw[P2.1];split<;>simp
  have eb:tN (cR (m+1) (Bq f1 o p (i+1))) (((j+1:Nat):Int)-1)=some (bJ (Bq f1 o p (i+1) j)):=by
   rw[show((j+1:Nat):Int)-1=(j:Int) by lia];exact aF (cT (show j<m+1 by lia))
  refine⟨fun σ H3=>∃us,σ=[sR x,sR cr,sI (((i+1:Nat):Int)),sI (((j+1:Nat):Int)),some (bJ (Bq f1 o p (i+1) (j+1))),sR r]∧ar H H3∧H3 r=some (.lst us)∧fO H3 us (bp f1 o p i j),?_,?_⟩
  ·refine⟨_,rfl,x,av,dx,_,_,rfl,T2.ob,Rc.cl,Rc.i_,gF o p e b,_,rfl,b,_,_,_,rfl,rfl, .of T2.hb,aF g2,_,rfl,_,_,rfl,rfl,rb,_,_,_,rfl,rfl, .of (s2 _ _ g3),eb,?_⟩;refine⟨_,rfl,x,av,dx,_,_,rfl,T2.ob,Rc.cl,Rc.into,DE o p e b,Bq f1 o p (i+1) j,p,rfl,?_⟩;refine⟨_,rfl,by cases bx (Bq f1 o p (i+1) j) p<;>cases Bq f1 o p (i+1) (j+1)<;>rfl,_,rfl,?_⟩;rw[IA];refine bB (fun hh=>?_) (fun hh=>?_)
   ·have hh:bx (Bq f1 o p (i+1) j) p=Bq f1 o p (i+1) (j+1):=of_decide_eq_true hh;refine⟨_,rfl, .inl ⟨rfl,_, .of yv⟩,_,rfl,_,rfl,_,_,rfl,rfl,ax Zr,fun t ht=>?_⟩;have s3:=ar.upd (o:= .tup [.int ((i+1:Nat):Int), .int (((j+1:Nat):Int)-1)]) ht;have UB:t≠r:=fun z=>by subst z;rw[yv]at ht;cases ht
    refine⟨r,_,_,rfl,rfl,s3 _ _ yv,bh Zq,_,rfl,(s2.trans s3).fA qD,ae,?_⟩;unfold bp;rw[Zi hh];refine((P2.same s3).append ⟨rfl,fun k f hf=>?_⟩).cw fun a ys ha=>?_
    ·have hk:k=0:=by
      have:=(Y' hf).1;simp at this
      lia
     subst hk;have hf:(((i+1:Nat):Int),(j:Int))=f:=by simpa using hf
     subst hf;refine⟨t,rfl,?_⟩;rw[ae,show((j+1:Nat):Int)-1=(j:Int) by lia];rfl
    ·have dE:a≠r:=fun z=>by subst z;rw[s3 _ _ yv]at ha;cases ha
     rw[ai dE];exact ha
   ·have hh:¬bx (Bq f1 o p (i+1) j) p=Bq f1 o p (i+1) (j+1):=by simpa using hh
    refine⟨us,rfl,s2,yv,?_⟩;unfold bp;rw[Ze hh,List.append_nil];exact P2
  rintro σ H3 ⟨us,rfl,s3,vX,P3⟩;exact⟨_,rfl,q H3 r us s3 qD vX P3⟩
variable(a9:dX P w K mg base true 1 av "is_brought_by" ["self","crossing","pair"] (ZC av))
variable(aX:dX P w K mg base true 2 av "crossings_before" ["self","crossing"] (sj av))
theorem bO:aJ ["self","pair","crossing","ahead"] ["self","pair"] (ao eJ):=iV
include T Rc a9 aX in
theorem kH{f:Addr}{fd:FuncData}(F:ig K "pair_before" "Trails.pair_before" eJ f fd):bf P w K mg base (dD P w) true 3 f fd ["self","pair"] (vO av):=by
 refine F.iL bO Zs iW
 ·obtain⟨x,dx,e,b,es,bs,f,o,p,n,m,pr,i,j,rfl,_⟩:=h;rfl
 ·obtain⟨x,dx,e,b,es,bs,f1,o,p,n,m,pr,i,j,rfl,TR,AV,hi,hj,hB,q⟩:=h;refine⟨_,(Zn (Y3 (2) bO.nd (pv 1)) (Zn (Y3 (3) bO.nd (@e_ _ _ _ _ _ (Y2 (Za cG (Y8 (bN K) (pv 2) aq) aq) (Y2 (Za cG (Y8 (bN K) (pv 2) aq) aq) af)))) (Zn (@rJ _ _ _ _ _ _ hX.own (@cM _ _ _ _ (@bQ _ _ _ (Zb (pv 0) a9 (hr.mono (Zv)) aV (Y2 (pv 2) (Y2 (pv 3) af))) (by intro _;rfl))) (Zn (Y3 (2) bO.nd (Y8 (aG K) (Zb (pv 0) aX (hr.mono (Zv)) aV (Y2 (pv 2) af)) aq)) (Zg (Y3 (3) bO.nd (@e_ _ _ _ _ _ (Y2 (Za cG (Y8 (bN K) (pv 2) aq) aq) (Y2 (Za cG (Y8 (bN K) (pv 2) aq) aq) af))))))) (Zg (@aQ _ _ _ _ (pv 3)))))),?_⟩;obtain⟨i,rfl⟩:∃i',i=i'+1:=by
   cases i with
   |zero=>exact absurd (iy f1 o p j) hB
   |succ i=>exact⟨i,rfl⟩
  obtain⟨j,rfl⟩:∃j',j=j'+1:=by
   cases j with
   |zero=>exact absurd (by unfold Bq;rfl) hB
   |succ j=>exact⟨j,rfl⟩
  refine⟨_,rfl,_,rfl,pr,_,_,_,rfl,rfl, .of AV,aF (j:=0) rfl,_,_,rfl,rfl,_,rfl,pr,_,_,_,rfl,rfl, .of AV,aF (j:=1) rfl,_,_,rfl,rfl,ax Zr,fun t ht=>?_⟩;refine⟨fun mm σ H1=>∃(cr ah:Addr)(i2 j2:Nat),mm=i2+j2∧σ=[sR x,sR pr,sR cr,sR ah]∧ar H H1∧H1 cr=some (.tup [.int ((i2+1:Nat):Int), .int ((j2+1:Nat):Int)])∧H1 ah=some (.tup [.int i2, .int j2])∧i2<n∧j2<m∧Bq f1 o p (i2+1) (j2+1)≠none∧cD f1 o p (i2+1) (j2+1)=cD f1 o p (i+1) (j+1),⟨i+j,pr,t,i,j,rfl,rfl,ar.upd ht,ar.upd ht _ _ AV,?_,by lia,by lia,hB,rfl⟩,?_⟩
  ·rw[ae,show((i+1:Nat):Int)-1=(i:Int) by lia,show((j+1:Nat):Int)-1=(j:Int) by lia]
  rintro mm σ H1 ⟨cr,ah,i2,j2,rfl,rfl,s1,Iy,UC,yp,R6,LI,UD⟩;have T1:=TR.keep s1;refine⟨_,rfl,x,dx,_,rfl,T1.ob,Ii o p e b,_,rfl,_,rfl,x,dx,e,b,es,bs,f1,o,p,n,m,cr,ah,i2+1,j2+1,i2,j2,rfl,T1,Iy,UC,by lia,by lia,yp,R6,?_⟩;refine⟨_,rfl,?_⟩;by_cases hE:cZ f1 o p i2 j2=Bq f1 o p (i2+1) (j2+1)
  ·rw[decide_eq_true hE];refine g6 ?_;refine⟨_,rfl,q H1 ah s1 ?_⟩;have:cD f1 o p (i2+1) (j2+1)=(i2,j2):=by unfold cD;rw[Zi hE]
   rw[←UD,this];exact UC
  ·rw[decide_eq_false hE];refine jH ?_;refine⟨_,fun a7 H' z=>z,?_⟩;obtain⟨i3,j3,c0,c1,c2,c3,c4,c5⟩:=xI LI hE;refine⟨_,rfl,x,dx,_,rfl,T1.ob,AE o p e b,_,rfl,x,dx,e,b,es,bs,f1,o,p,n,m,cr,i2,j2,rfl,T1,Iy,yp,R6,fun H2 r us s2 qD yv P2=>?_⟩;obtain⟨t2,k1,k2⟩:=P2.2 0 _ c0;refine⟨r,_,_,_,rfl,rfl, .of yv,aF (j:=0) k1,?_⟩;refine⟨_,rfl,t2,_,_,_,rfl,rfl, .of k2,aF (j:=0) rfl,_,_,rfl,rfl,_,rfl,t2,_,_,_,rfl,rfl, .of k2,aF (j:=1) rfl,_,_,rfl,rfl,ax Zr,fun t3 UE=>?_⟩;refine⟨i3+j3,by lia,t2,t3,i3,j3,rfl,rfl,s1.trans (s2.trans (ar.upd UE)),ar.upd UE _ _ k2,?_,by lia,by lia,c4,by rw[c5,UD]⟩;rw[ae];show some (HO.tup [.int (((i3+1:Nat):Int)-1), .int (((j3+1:Nat):Int)-1)])=_;rw[show((i3+1:Nat):Int)-1=(i3:Int) by lia,show((j3+1:Nat):Int)-1=(j3:Int) by lia]
variable(bT:dX P w K mg base true 1 av "goes_on" ["self","pair"] (vN av))
variable(cV:dX P w K mg base true 3 av "pair_before" ["self","pair"] (vO av))
theorem jR:aJ ["self","pair","way"] ["self","pair"] (ao ij):=iV
include T Rc bT cV in
theorem p_{f:Addr}{fd:FuncData}(F:ig K "way_to" "Trails.way_to" ij f fd):bf P w K mg base (dD P w) true 4 f fd ["self","pair"] (ZE av):=by
 refine F.iL jR Zs iW
 ·obtain⟨x,dx,e,b,es,bs,f,o,p,n,m,pr,i,j,rfl,_⟩:=h;rfl
 ·obtain⟨x,dx,e,b,es,bs,f1,o,p,n,m,pr,i,j,rfl,TR,AV,hi,hj,hn,q⟩:=h;refine⟨_,(Zn (Y3 (2) jR.nd (@bS _ _ _ _ (Y2 (pv 1) af))) (Zn (@rJ _ _ _ _ _ _ hX.own (@bQ _ _ _ (Zb (pv 0) bT (hr.mono (Zv)) aV (Y2 (Y8 (aG K) (pv 2) (@qx _ _ _ _ _ _ kR aq)) af)) (by intro _;rfl)) (Zg (@bg _ _ _ _ (Zc K PySem.F.plainAttrs_list PySem.F.slot_list_append PySem.F.type_list_append dh (pv 2) (Y2 (Zb (pv 0) cV (hr.mono (Zv)) aV (Y2 (Y8 (aG K) (pv 2) (@qx _ _ _ _ _ _ kR aq)) af)) af)) (Zw)))) (Zn (@bg _ _ _ _ (@Gs _ K _ _ _ _ _ _ _ _ PySem.F.plainAttrs_list PySem.F.slot_list_reverse PySem.F.type_list_reverse yM (pv 2) (Zw) (Zw) (Zw)) (Zw)) (Zg (@aQ _ _ _ _ (pv 2)))))),?_⟩;refine⟨_,rfl,ax Zr,fun w hw=>?_⟩;refine⟨fun mm σ H1=>∃(us:List V)(A:List (Nat×Nat))(i2 j2:Nat),mm=i2∧σ=[sR x,sR pr,sR w]∧ar H H1∧H1 w=some (.lst us)∧fO H1 us ((A++[(i2,j2)]).map aO)∧i2<n∧j2<m∧A.length+i2≤i∧dY f1 o p i i j=dY f1 o p i2 i2 j2++A.reverse,⟨i,_,[],i,j,rfl,rfl,ar.upd hw,ae,⟨rfl,fun k g hg=>?_⟩,hi,hj,Zx,Zx⟩,?_⟩
  ·have hk:k=0:=by
    have:=(Y' hg).1;simp at this
    lia
   subst hk;have hg:aO (i,j)=g:=by simpa using hg
   subst hg;exact⟨pr,rfl,ar.upd hw _ _ AV⟩
  rintro i2 σ H1 ⟨us,A,_,j2,rfl,rfl,s1,xX,P1,yp,R6,hA,N7⟩;have T1:=TR.keep s1;obtain⟨t,E3,yx⟩:=P1.last Zr;rw[List.map_append,List.map_singleton,yY]at yx;have hlen:us.length≤1001:=by have:=P1.1;simp at this;lia
  refine⟨_,rfl,x,dx,_,rfl,T1.ob,Eo o p e b,_,rfl,_,rfl,w,_,_,_,rfl,rfl, .of xX,E3,x,dx,e,b,es,bs,f1,o,p,n,m,t,i2,j2,rfl,T1,yx,by lia,by lia,?_⟩;refine⟨_,rfl,?_⟩;refine bB (fun hh=>?_) (fun hh=>?_)
  ·obtain⟨c1,c2,c3⟩:=jL hh;have hl:=(j9 f1 o p i2 j2 c1 c2).resolve_right c3;refine⟨_,fun a7 H' z=>z,?_⟩;refine⟨_,rfl, .inl ⟨rfl,_, .of xX⟩,_,rfl,x,dx,_,rfl,T1.ob,KD o p e b,_,rfl,_,rfl,w,_,_,_,rfl,rfl, .of xX,E3,x,dx,e,b,es,bs,f1,o,p,n,m,t,i2,j2,rfl,T1,yx,by lia,by lia,c3,fun H2 r s2 hr=>?_⟩;have YI:r≠w:=fun z=>by subst z;rw[s2 _ _ xX]at hr;cases hr
   refine⟨w,_,_,rfl,rfl,s2 _ _ xX,bh Zq,(cD f1 o p i2 j2).1,hl.1,us++[.ref r],A++[(i2,j2)],_,(cD f1 o p i2 j2).2,rfl,rfl,(s1.trans s2).fA hw,ae,?_,by lia,by lia,by simp;lia,?_⟩
   ·rw[List.map_append];refine((P1.same s2).append ⟨rfl,fun k g hg=>?_⟩).cw fun a ys ha=>?_
    ·have hk:k=0:=by
      have:=(Y' hg).1;simp at this
      lia
     subst hk;have hg:aO ((cD f1 o p i2 j2).1,(cD f1 o p i2 j2).2)=g:=by simpa using hg
     subst hg;exact⟨r,rfl,hr⟩
    ·have dE:a≠w:=fun z=>by subst z;rw[s2 _ _ xX]at ha;cases ha
     rw[ai dE];exact ha
   ·rw[N7,uY hh];simp
  ·have hh:¬gA (Bq f1 o p i2 j2)=true:=hh;refine⟨_,rfl, .inl ⟨rfl,_, .of xX⟩,w,us,rfl,rfl,xX,?_⟩;refine⟨_,rfl,q _ w us.reverse (s1.fA hw) hw ae ?_⟩;have e:dY f1 o p i i j=(A++[(i2,j2)]).reverse:=by
    rw[N7,gG hh];simp
   rw[e,List.map_reverse];refine⟨by rw[List.length_reverse,List.length_reverse,P1.1],fun k g hg=>?_⟩;have hk:=(Y' hg).1;rw[List.length_reverse]at hk;have hl:=P1.1;rw[List.getElem?_reverse hk]at hg;obtain⟨t3,k1,k2⟩:=P1.2 _ _ hg;refine⟨t3,by rw[List.getElem?_reverse Zq,hl];exact k1,?_⟩;have dE:t3≠w:=fun z=>by subst z;rw[xX]at k2;cases k2
   rw[ai dE];exact k2
variable(Fc:Ij K ay)
theorem mn:aJ ["self","worth","way","row","pairs"] ["self","worth","way","row","pairs"] (ao fC):=iV
include T Fc in
theorem mq{f:Addr}{fd:FuncData}(F:ig K "__init__" "Finding.__init__" fC f fd):bf P w K mg base (dD P w) true 1 f fd ["self","worth","way","row","pairs"] (so ay):=by
 refine F.iL mn Zs iW
 ·obtain⟨x,dx,a,r,p,w,rfl,_⟩:=h;rfl
 ·obtain⟨x,dx,a,r,p,w,rfl,hx,q⟩:=h;refine⟨_,(Zn (Zo K (pv 0) (pv 1)) (Zn (Zo K (pv 0) (pv 2)) (Zn (Zo K (pv 0) (pv 3)) (Zg (Zo K (pv 0) (pv 4)))))),?_⟩;have a1:=aW "worth" (.int w) [];have a2:=aW "way" (.ref a) (bo "worth" (.int w) []);have a3:=aW "row" (.ref r) (bo "way" (.ref a) (bo "worth" (.int w) []));simp only[List.length_nil]at a1;refine⟨_,rfl,_,rfl,x,ay,dx,_,rfl,hx,Fc.cl,Fc.worth,Zv,?_⟩;refine⟨_,rfl,_,rfl,x,ay,dx,_,rfl,ae,Fc.cl,Fc.way,by lia,?_⟩;refine⟨_,rfl,_,rfl,x,ay,dx,_,rfl,ae,Fc.cl,Fc.row,by lia,?_⟩;refine⟨_,rfl,_,rfl,x,ay,dx,_,rfl,ae,Fc.cl,Fc.pairs,by lia,?_⟩;rw[fQ,fQ,fQ,KG];exact q
theorem xY:aJ ["finding"] ["finding"] (ao m4):=iV
include T Fc in
theorem xZ{f:Addr}{fd:FuncData}(F:lO K "order_of" "order_of" m4 f fd):bf P w K mg base (dD P w) true 1 f fd ["finding"] (sq ay):=by
 refine F.iL xY Zs iW
 ·obtain⟨x,dx,a,r,p,w,us,ps,rfl,_⟩:=h;rfl
 ·obtain⟨x,dx,a,r,p,w,us,ps,rfl,hx,hp,PS,dE,q⟩:=h;refine⟨_,(Zg (@aQ _ _ _ _ (@e_ _ _ _ _ _ (Y2 (@qx _ _ _ _ _ _ kR (Y7 K (pv 0))) (Y2 (Y8 (aG K) (Y7 K (pv 0)) aq) af))))),?_⟩;obtain⟨t,h1,h2⟩:=PS.first dE;refine⟨_,rfl,x,ay,dx,_,_,rfl,hx,Fc.cl,Fc.worth,n9 w a r p,_,rfl,_,rfl,x,ay,dx,_,_,rfl,hx,Fc.cl,Fc.pairs,jM w a r p,p,_,_,_,rfl,rfl, .of hp,h1,ax Zr,fun k hk=>?_⟩;exact q _ k t (ar.upd hk) ae (ar.upd hk _ _ h2)
variable(fu:dX P w K mg base true 4 av "way_to" ["self","pair"] (ZE av))
variable(ki:mD P w K mg base true 1 "Finding" ay ["self","worth","way","row","pairs"] [] (so ay))
theorem fv:aJ ["trails","worth","pairs","ends","way","row"] ["trails","worth","pairs"] (ao eK):=iV
include T Rc fu ki in
theorem qS{f:Addr}{fd:FuncData}(F:lO K "make_finding" "make_finding" eK f fd):bf P w K mg base (dD P w) true 6 f fd ["trails","worth","pairs"] (ZG av ay):=by
 refine F.iL fv Zs iW
 ·obtain⟨x,dx,e,b,es,bs,f,o,p,n,m,w,pr,us,ps,q0,rfl,_⟩:=h;rfl
 ·obtain⟨x,dx,e,b,es,bs,f1,o,p,n,m,w,pr,us,ps,q0,rfl,TR,AV,PS,pz,h0,hn,BH,q⟩:=h;refine⟨_,(Zf (@rm _ _ _ _ _ _ _ _ _ _ _ _ _ _ _ (3) _ _ (by exact rfl) fv.nd Zt (by exact rfl) (show ba ["trails","worth","pairs","ends","way","row"] (ao eK) _ ["pair"] [0,1] ["trails","worth"]from AS) (@cj _ K _ _ _ (pv 2) (Zw)) (fun _ _ _ _ _=>(Y6 (0) (show(["pair","trails","worth"]:List Str).Nodup by decide+kernel) (Or.inl rfl))) (fun _ _ _ _ _=>(@z9 _ _ _ (@aZ _ _ _ _ _ _ _ _ jD (Y8 (aG K) (Y8 (aG K) (Y7 K (pv 1)) (Y8 (bN K) (pv 0) aq)) (Y8 (bN K) (pv 0) aq)) (pv 2) (aY _)))) (fun _ _ _ _ _=>(pv 0)) (Zw) (by intro _;rfl)) (Zf (Y3 (4) fv.nd (Zb (pv 0) fu (hr.mono (Zv)) aV (Y2 (Y8 (aG K) (pv 3) aq) af))) (Zf (@rm _ _ _ _ _ _ _ _ _ _ _ _ _ _ _ (5) _ _ (by exact rfl) fv.nd Zt (by exact rfl) (show ba ["trails","worth","pairs","ends","way","row"] (ao eK) _ ["i","j"] [0] ["trails"]from AS) (@cj _ K _ _ _ (pv 4) (Zw)) (fun _ _ _ _ _=>(@i8 _ K _ _ _ (2) _ (by exact rfl) (@cc _ _ _ _ _ (Y6 (0) (show(["i","j","trails"]:List Str).Nodup by decide+kernel) (Or.inl rfl)) (@cc _ _ _ _ _ (Y6 (1) (show(["i","j","trails"]:List Str).Nodup by decide+kernel) (Or.inl rfl)) i6 (Zw)) (Zw)) (Zw) (Zw) (Zw))) (fun _ _ _ _ _=>fq) (fun _ _ _ _ _=>(Y8 (aG K) (Y8 (aG K) (Y7 K (pv 2)) (pv 0)) (pv 1))) (Zw) (by intro _;rfl)) (Zg (@aQ _ _ _ _ (@rp _ _ _ _ _ _ _ _ _ _ _ _ _ _ ki (hr.mono (Zv)) hX.pass (Y2 (pv 1) (Y2 (pv 4) (Y2 (pv 5) (Y2 (pv 2) af)))) (Zw) (Zv) (Zw) (Zw))))))),?_⟩;have K1:us.length=ps.length:=by have:=PS.1;simpa using this
  refine⟨fun σ H1=>∃D vs,σ=[sR x,sI w,sR pr,sR D,none,none]∧ar H H1∧H1 D=some (.lst vs)∧fO H1 vs ((ps.filter fun q=>decide (cZ f1 o p q.1 q.2=some w)).map aO),?_,?_⟩
  ·refine⟨_,rfl,pr,rfl,⟨_, .of AV⟩,fun D hD=>?_⟩;refine iF (xs:=us) (fun k ys a7 H'=>(∃u,a7=[u,sR x,sI w])∧fO H ys (((ps.take k).filter fun q=>decide (cZ f1 o p q.1 q.2=some w)).map aO)∧H' D=some (.lst ys)∧ar H H'∧ys.length≤k) ⟨⟨_,rfl⟩, .nil,ae,ar.upd hD,Zx⟩ ?_ ?_ ?_
   ·rintro k ys a7 H' _ ⟨_,_,_,s1,_⟩;exact .of (s1 _ _ AV)
   ·rintro k v ys a7 H' hv ⟨⟨u,rfl⟩,P1,u0,s1,AU⟩;have hk:k<ps.length:=by rw[←K1];exact(Y' hv).1
    have ek:ps[k]?=some ps[k]:=by simp[hk]
    have hm:=pz ps[k] (List.getElem_mem hk);generalize ps[k]=g at ek hm;obtain⟨t,k1,k2⟩:=PS.2 k (aO g) (by rw[List.getElem?_map,ek];rfl);rw[hv]at k1;cases k1;have T1:=TR.keep s1;have kt:=s1 _ _ k2;obtain⟨rb,g1,g2,g3⟩:=T1.te.at hm.1;have et:ps.take (k+1)=ps.take k++[g]:=by rw[List.take_succ,ek];rfl
    refine⟨_,rfl,x,av,dx,_,_,rfl,T1.ob,Rc.cl,Rc.j8,g8 o p e b,_,rfl,t,_,_,_,rfl,rfl, .of kt,aF (j:=0) rfl,e,_,_,_,rfl,rfl, .of T1.he,aF g2,_,rfl,t,_,_,_,rfl,rfl, .of kt,aF (j:=1) rfl,rb,_,_,_,rfl,rfl, .of g3,aF (cT hm.2),?_⟩;have IA:decide (bJ (cZ f1 o p g.1 g.2)=V.int w)=decide (cZ f1 o p g.1 g.2=some w):=by cases cZ f1 o p g.1 g.2<;>simp[bJ]
    refine⟨_,rfl,by cases cZ f1 o p g.1 g.2<;>rfl,_,rfl,?_⟩;rw[IA];refine bB (fun hh=>?_) (fun hh=>?_)
    ·refine⟨_,rfl,u0,bh Zq,⟨_,rfl⟩,?_,ae,s1.fA hD,by simp;lia⟩;rw[et,List.filter_append,List.map_append];refine P1.append ?_;rw[show[g].filter (fun q=>decide (cZ f1 o p q.1 q.2=some w))=[g] by rw[List.filter_cons,Zi hh];rfl];exact⟨rfl,fun k3 g3 Po=>by
      have Xj:k3=0:=by
       have:=(Y' Po).1;simp at this
       lia
      subst Xj;have Po:aO g=g3:=by simpa using Po
      subst Po;exact⟨t,rfl,k2⟩⟩
    ·have hh:decide (cZ f1 o p g.1 g.2=some w)=false:=by simpa using hh
     refine⟨⟨_,rfl⟩,?_,u0,s1,by lia⟩;rw[et,List.filter_append,show[g].filter (fun q=>decide (cZ f1 o p q.1 q.2=some w))=[] by rw[List.filter_cons,hh];rfl,List.append_nil];exact P1
   ·rintro ys a7 H' ⟨_,P1,u0,s1,_⟩;rw[K1,List.take_length]at P1;exact⟨D,ys,rfl,s1,u0,P1.same s1⟩
  rintro σ H1 ⟨D,vs,rfl,s1,u0,P1⟩;obtain⟨t0,k1,k2⟩:=P1.2 0 (aO q0) (by rw[List.getElem?_map,h0];rfl);have K2:q0.1<n∧q0.2<m:=pz q0 (List.mem_filter.mp (Zd h0)).1;refine⟨fun σ H2=>∃wy iP,σ=[sR x,sI w,sR pr,sR D,sR wy,none]∧ar H1 H2∧H1 wy=none∧H2 wy=some (.lst iP)∧fO H2 iP ((dY f1 o p q0.1 q0.1 q0.2).map aO),?_,?_⟩
  ·have T1:=TR.keep s1;exact⟨_,rfl,x,dx,_,rfl,T1.ob,NA o p e b,_,rfl,D,_,_,_,rfl,rfl, .of u0,aF (j:=0) k1,x,dx,e,b,es,bs,f1,o,p,n,m,t0,q0.1,q0.2,rfl,T1,k2,K2.1,K2.2,hn,fun H2 wy iP s2 h2 h3 P2=>⟨wy,iP,rfl,s2,h2,h3,P2⟩⟩
  rintro σ H2 ⟨wy,iP,rfl,s2,R7,Ft,P2⟩;have Z6:=P2.1;rw[List.length_map]at Z6;have MF:(dY f1 o p q0.1 q0.1 q0.2).length≤1001:=by
   have:=xJ (f:=f1) (o:=o) (p:=p) q0.1 q0.1 q0.2
   lia
  have N8:=AF (f:=f1) (o:=o) (p:=p) q0.1 q0.1 q0.2 K2.1 K2.2;generalize dY f1 o p q0.1 q0.1 q0.2=W at P2 Z6 MF N8 q;refine⟨fun σ H3=>∃r,σ=[sR x,sI w,sR pr,sR D,sR wy,sR r]∧ar H2 H3∧H2 r=none∧H3 r=some (.lst (W.map fun q=>bJ (cZ f1 o p q.1 q.2))),?_,?_⟩
  ·refine⟨_,rfl,wy,rfl,⟨_, .of Ft⟩,fun D2 mG=>?_⟩;refine iF (xs:=iP) (fun k ys a7 H'=>(∃u v,a7=[u,v,sR x])∧ys=(W.take k).map (fun q=>bJ (cZ f1 o p q.1 q.2))∧H' D2=some (.lst ys)∧ar H2 H') ⟨⟨_,_,rfl⟩,rfl,ae,ar.upd mG⟩ ?_ ?_ ?_
   ·rintro k ys a7 H' _ ⟨_,_,_,s3⟩;exact .of (s3 _ _ Ft)
   ·rintro k v ys a7 H' hv ⟨⟨u,v2,rfl⟩,rfl,Z0,s3⟩;have hk:k<W.length:=by rw[←Z6];exact(Y' hv).1
    have ek:W[k]?=some W[k]:=by simp[hk]
    have hm:=N8 W[k] (List.getElem_mem hk);generalize W[k]=g at ek hm;obtain⟨t,k1,k2⟩:=P2.2 k (aO g) (by rw[List.getElem?_map,ek];rfl);rw[hv]at k1;cases k1;have T3:=TR.keep (s1.trans (s2.trans s3));have kt:=s3 _ _ k2;obtain⟨rb,g1,g2,g3⟩:=T3.te.at hm.1;refine⟨t,_,rfl, .of kt,rfl,_,_,rfl,_,_,rfl,rfl,?_⟩;refine rn ?_;refine⟨_,rfl,x,av,dx,_,_,rfl,T3.ob,Rc.cl,Rc.j8,g8 o p e b,_,rfl,e,_,_,_,rfl,rfl, .of T3.he,aF g2,_,rfl,rb,_,_,_,rfl,rfl, .of g3,aF (cT hm.2),?_⟩;refine⟨Z0,bh (by rw[List.length_map,List.length_take];lia),⟨_,_,rfl⟩,?_,ae,s3.fA mG⟩;rw[List.take_succ,ek];simp
   ·rintro ys a7 H' ⟨_,rfl,Z0,s3⟩;rw[Z6,List.take_length]at Z0;exact⟨D2,rfl,s3,mG,Z0⟩
  rintro σ H3 ⟨r,rfl,s3,qD,vX⟩;refine⟨_,rfl,_,rfl,_,rfl,_,rfl,fun y dy hy K3 dE=>?_⟩;have s4:ar H3 (upd (upd H3 dy (.own y)) y (.ins ay dy [])):=(ar.upd K3).fA hy;refine⟨y,dy,wy,r,pr,w,rfl,ae,?_⟩;refine⟨rfl,?_⟩;rw[fQ];have s5:ar H3 (upd (upd H3 dy (.own y)) y (.ins ay dy (mF w wy r pr))):=(ar.upd K3).fA hy;have sH:=s1.trans (s2.trans s3);exact q _ y dy wy r iP (sH.trans s5) (sH.free hy) (sH.free K3) (s1.free R7) ((s1.trans s2).free qD) ae (by rw[ai dE];exact ae) (s5 _ _ (s3 _ _ Ft)) (P2.same (s3.trans s5)) (s5 _ _ vX)
variable(Gc:NB K aD)
theorem nj:aJ ["self"] ["self"] (ao fX):=iV
include T Gc in
theorem nk{f:Addr}{fd:FuncData}(F:ig K "__init__" "Groups.__init__" fX f fd):bf P w K mg base (dD P w) true 1 f fd ["self"] (su aD):=by
 refine F.iL nj Zs iW
 ·obtain⟨x,dx,rfl,_⟩:=h;rfl
 ·obtain⟨x,dx,rfl,hx,q⟩:=h;refine⟨_,(Zn (Zo K (pv 0) kT) (Zg (Zo K (pv 0) kT))),?_⟩;have a1:=aW "leads" (.ref 0) [];simp only[List.length_nil]at a1;refine fun dl Pp=>?_
  have n1:x≠dl:=aA hx Pp;refine⟨_,rfl,x,aD,dx,_,rfl,by rw[ai n1];exact hx,Gc.cl,Gc.oa,Zv,?_⟩;refine fun dm IB=>?_
  have n2:x≠dm:=fun z=>by rw[z,ae]at IB;cases IB
  have Hg:upd H dl (.dT []) dm=none:=by rw[ai (Ne.symm n2)]at IB;exact IB
  have n3:dm≠dl:=fun z=>by rw[z,ae]at Hg;cases Hg
  have N9:H dm=none:=by rw[ai n3]at Hg;exact Hg
  refine⟨_,rfl,x,aD,dx,_,rfl,by rw[ai n2,ae],Gc.cl,Gc.members,by have:=aW "leads" (.ref dl) [];simp at this;lia,?_⟩;rw[NC];refine q _ (fun a=>a=dl∨a=dm) ?_ ?_ ?_
  ·exact fun b u hb e=>by
    rw[ai hb,ai (aA e N9),ai hb,ai (aA e Pp)];exact e
  ·rintro a (rfl|rfl)
   ·exact Pp
   ·exact N9
  ·refine⟨dx,dl,dm,[],[],fun _=>none,fun _=>none,ae,fun z=>z.elim n1 n2,⟨?_,?_, .inl rfl, .inr rfl,Ne.symm n3,fun p=>rfl,fun p=>rfl,fun p q a e=>(by cases e),fun kv h=>(by cases h), .nil,fun l ms e=>(by cases e),fun p l e=>(by cases e),fun l ms e=>(by cases e)⟩,fun a b=>⟨False.elim,fun⟨l,e,_⟩=>(by cases e)⟩,Nat.le_refl _,Nat.le_refl _⟩
   ·rw[ai (Ne.symm n1),ai (Ne.symm n3),ai (Ne.symm n1),ae]
   ·rw[ai (Ne.symm n2),ae]
theorem t6:aJ ["self","pair"] ["self","pair"] (ao iB):=iV
include T Gc in
theorem t8{f:Addr}{fd:FuncData}(F:ig K "has" "Groups.has" iB f fd):bf P w K mg base (dD P w) true 1 f fd ["self","pair"] (ZJ aD):=by
 refine F.iL t6 Zs iW
 ·obtain⟨x,t,p,S,E1,B,rfl,_⟩:=h;rfl
 ·obtain⟨x,t,p,S,E1,B,rfl,G,ht,q⟩:=h;have hu:=hr.units;have hu:(A.deeper (PyProof.Rows.envOfC "Groups.has" (ao iB) s.heap.objs.size f gw)).units+1<cLine:=by lia
  refine⟨_,(Zg (@aQ _ _ _ _ (@Cv _ _ _ _ _ _ (@rP _ _ _ _ _ hu (pv 1) (Y7 K (pv 0))) (by first|exact cb _ (Zv) (Zv)|rfl)))),?_⟩;obtain⟨dg,dl,dm,kl,km,ld,mm,hg,E4,D,hE,Pq,LI⟩:=G;refine⟨_,rfl,_,rfl,x,aD,dg,_,_,rfl,hg,Gc.cl,Gc.oa,ja dl dm,dl,_,rfl, .t (k:=a8 p) D.hl ht,q _ ?_⟩;rw[hE];have:=D.lv p;cases e:ld p with
  |none=>
   rw[e]at this;have this:bu kl (a8 p)=none:=this;rw[this];simp
  |some l=>
   rw[e]at this;obtain⟨t2,h1,_⟩:=this;rw[h1];simp
theorem oz:aJ ["self","pair"] ["self","pair"] (ao eY):=iV
include T Gc in
theorem oA{f:Addr}{fd:FuncData}(F:ig K "take_in" "Groups.take_in" eY f fd):bf P w K mg base (dD P w) true 1 f fd ["self","pair"] (vQ aD):=by
 refine F.iL oz Zs iW
 ·obtain⟨x,t,p,S,E1,B,rfl,_⟩:=h;rfl
 ·obtain⟨x,t,p,S,E1,B,rfl,G,ht,hB,q⟩:=h;have hu:=hr.units;have hu:(A.deeper (PyProof.Rows.envOfC "Groups.take_in" (ao eY) s.heap.objs.size f gw)).units+1<cLine:=by lia
  refine⟨_,(Zg (Zm (Zk (@Bj _ _ _ _ _ hu (pv 1) (Y7 K (pv 0)))) (Zn (@lN _ _ _ _ _ _ _ _ _ hu (Y7 K (pv 0)) (pv 1) (pv 1) (by exact rfl)) (Zg (@lN _ _ _ _ _ _ _ _ _ hu (Y7 K (pv 0)) (pv 1) (@bS _ _ _ _ (Y2 (pv 1) af)) (by exact rfl)))) aR)),?_⟩;obtain⟨dg,dl,dm,kl,km,ld,mm,hg,E4,D,hE,Pq,LI⟩:=id G;refine⟨_,rfl,_,rfl,x,aD,dg,_,_,rfl,hg,Gc.cl,Gc.oa,ja dl dm,dl,_,rfl, .t (k:=a8 p) D.hl ht,_,rfl,?_⟩;have lv:=D.lv p;cases e:ld p with
  |some l=>
   rw[e]at lv;obtain⟨t2,h1,_⟩:=lv;rw[h1];refine g6 ?_;refine q H S (.same (.refl H)) (G.iff (fun a b=>?_) (by lia));unfold Ik;refine⟨fun z=>z.elim id ?_, .inl⟩;rintro⟨rfl,rfl⟩;rw[hE];exact⟨l,e,e⟩
  |none=>
   rw[e]at lv;have lv:bu kl (a8 p)=none:=lv;rw[lv];refine jH ?_;have nx:x≠dl:=fun z=>E4 (z▸D.sl)
   have Pt:x≠dm:=fun z=>E4 (z▸D.sm)
   have R8:t≠dl:=fun z=>by rw[z,D.hl]at ht;cases ht
   have YJ:t≠dm:=fun z=>by rw[z,D.hm]at ht;cases ht
   refine⟨_,rfl,_,rfl,x,aD,dg,_,_,rfl,hg,Gc.cl,Gc.oa,ja dl dm,_,rfl,dl,_,rfl, .t (k:=a8 p) D.hl ht (bh Zq),?_⟩;refine⟨_,rfl,ax Zr,fun a ha=>?_⟩;have na:a≠dl:=fun z=>by rw[z,ae]at ha;cases ha
   have Co:H a=none:=by rw[ai na]at ha;exact ha
   have N1:x≠a:=aA hg Co;have UG:dm≠a:=aA D.hm Co;have Xk:t≠a:=aA ht Co;refine⟨_,rfl,x,aD,dg,_,_,rfl,by rw[ai N1,ai nx];exact hg,Gc.cl,Gc.members,iG dl dm,_,rfl,dm,_,rfl, .t (k:=a8 p) (by rw[ai UG,ai (Ne.symm D.ne)];exact D.hm) (by rw[ai Xk,ai R8];exact ht) (bh Zq),?_⟩;refine q _ (fun y=>S y∨y=a) ⟨fun y hy=>hy.imp id (fun z=>by rw[z];exact Co),fun b o hb eb=>?_⟩ ?_
   ·rw[ai (fun z:b=dm=>hb (by rw[z];exact D.sm)),ai (aA eb Co),ai (fun z:b=dl=>hb (by rw[z];exact D.sl))];exact eb
   refine⟨dg,dl,dm,_,_,_,_,by rw[ai Pt,ai N1,ai nx];exact hg,fun z=>z.elim E4 N1,D.take (t:=t) (a:=a) e ht Co ?_ ae ?_ ?_,fun a1 b1=>?_,?_,?_⟩
   ·rw[ai D.ne,ai (Ne.symm na),ae]
   ·rw[ai (Ne.symm UG),ae]
   ·intro b o h1 h2 eb;rw[ai h2,ai (aA eb Co),ai h1];exact eb
   ·unfold Ik;rw[hE];constructor
    ·rintro(⟨l,h1,h2⟩|⟨z1,z2⟩)
     ·exact⟨l,by rw[Ze (fun z=>by rw[z,e]at h1;cases h1)];exact h1,by rw[Ze (fun z=>by rw[z,e]at h2;cases h2)];exact h2⟩
     ·exact⟨p,by rw[Zi z1],by rw[Zi z2]⟩
    ·rintro⟨l,h1,h2⟩;by_cases z1:a1=p
     ·by_cases z2:b1=p
      ·exact .inr ⟨z1,z2⟩
      ·rw[Zi z1]at h1;rw[Ze z2]at h2;cases h1;obtain⟨ms,Ck⟩:=D.ml _ _ h2;have:=D.self _ _ Ck;rw[e]at this;cases this
     ·rw[Ze z1]at h1;by_cases z2:b1=p
      ·rw[Zi z2]at h2;cases h2;obtain⟨ms,Ck⟩:=D.ml _ _ h1;have:=D.self _ _ Ck;rw[e]at this;cases this
      ·rw[Ze z2]at h2;exact .inl ⟨l,h1,h2⟩
   ·exact Nat.le_trans (fG _ _ _) (by lia)
   ·exact Nat.le_trans (fG _ _ _) (by lia)
theorem cx:aJ ["self","pair","other","lead","gone","moved","member"] ["self","pair","other"] (ao eL):=iV
include T Gc in
theorem qT{f:Addr}{fd:FuncData}(F:ig K "unite" "Groups.unite" eL f fd):bf P w K mg base (dD P w) true 1 f fd ["self","pair","other"] (sC aD):=by
 refine F.iL cx Zs iW
 ·obtain⟨x,t,u,p,q,S,E1,B,rfl,_⟩:=h;rfl
 ·obtain⟨x,t,u,p,q,S,E1,B,rfl,G,ht,Pe,hp,hq,hB,qq⟩:=h;have hu:=hr.units;have Pu:(A.deeper (PyProof.Rows.envOfC "Groups.unite" (ao eL) s.heap.objs.size f gw)).units<cLine:=by lia
  have hu:(A.deeper (PyProof.Rows.envOfC "Groups.unite" (ao eL) s.heap.objs.size f gw)).units+1<cLine:=by lia
  refine⟨_,(Zf (Y3 (3) cx.nd (@iu _ _ _ _ _ _ hu (Y7 K (pv 0)) (pv 1) (fun _ _=>rfl))) (Zf (Y3 (4) cx.nd (@iu _ _ _ _ _ _ hu (Y7 K (pv 0)) (pv 2) (fun _ _=>rfl))) (Zg (Zm (@aZ _ _ _ _ _ _ _ _ (BN K Pu) (pv 3) (pv 4) (aY _)) (Zf (Zm (@aZ _ _ _ _ _ _ _ _ xb (Y4 (aK K) T.d6 PyProof.Rows.Boot.«len» (Y2 (@iu _ _ _ _ _ _ hu (Y7 K (pv 0)) (pv 3) (fun _ _=>rfl)) af)) (Y4 (aK K) T.d6 PyProof.Rows.Boot.«len» (Y2 (@iu _ _ _ _ _ _ hu (Y7 K (pv 0)) (pv 4) (fun _ _=>rfl)) af)) (aY _)) (Zf (Y3 (3) cx.nd (@iu _ _ _ _ _ _ hu (Y7 K (pv 0)) (pv 2) (fun _ _=>rfl))) (Zg (Y3 (4) cx.nd (@iu _ _ _ _ _ _ hu (Y7 K (pv 0)) (pv 1) (fun _ _=>rfl))))) aR) (Zf (Y3 (5) cx.nd (@DI _ _ _ _ _ _ _ hu (Y7 K (pv 0)) (pv 4) ⟨rfl,rfl,rfl,rfl⟩)) (Zf (@dI _ _ _ _ _ _ _ _ hX.own Zt (@cj _ K _ _ _ (pv 5) (Zw)) (Y6 (6) cx.nd (Or.inl rfl)) (Zg (@lN _ _ _ _ _ _ _ _ _ hu (Y7 K (pv 0)) (pv 6) (pv 3) (by exact rfl))) (by intro _;rfl)) (Zg (@bg _ _ _ _ (Zc K PySem.F.plainAttrs_list PySem.F.slot_list_extend PySem.F.type_list_extend uJ (@iu _ _ _ _ _ _ hu (Y7 K (pv 0)) (pv 3) (fun _ _=>rfl)) (Y2 (pv 5) af)) (Zw)))))) aR)))),?_⟩;obtain⟨dg,dl,dm,kl,km,ld,mm,hg,E4,D,hE,Pq,LI⟩:=id G;obtain⟨l,IC,_⟩:=(hE p p).mp hp;obtain⟨g,ID,_⟩:=(hE q q).mp hq;obtain⟨tl,vl,xM⟩:∃tl,bu kl (a8 p)=some (.ref tl)∧H tl=some (.tup (jW l)):=by have:=D.lv p;rw[IC]at this;exact this
  obtain⟨tg,vg,LJ⟩:∃tg,bu kl (a8 q)=some (.ref tg)∧H tg=some (.tup (jW g)):=by have:=D.lv q;rw[ID]at this;exact this
  refine⟨fun σ H1=>H1=H∧σ=[sR x,sR t,sR u,sR tl,none,none,none],⟨_,rfl,x,aD,dg,_,_,rfl,hg,Gc.cl,Gc.oa,ja dl dm,_,rfl,dl,_,rfl,by have:=jG.t (k:=a8 p) D.hl ht;rw[vl]at this;exact this,rfl,rfl⟩,?_⟩;rintro σ H1 ⟨rfl,rfl⟩;refine⟨fun σ H2=>H2=H1∧σ=[sR x,sR t,sR u,sR tl,sR tg,none,none],⟨_,rfl,x,aD,dg,_,_,rfl,hg,Gc.cl,Gc.oa,ja dl dm,_,rfl,dl,_,rfl,by have:=jG.t (k:=a8 q) D.hl Pe;rw[vg]at this;exact this,rfl,rfl⟩,?_⟩;rintro σ H2 ⟨rfl,rfl⟩;refine⟨_,rfl,_,rfl,tl,tg,_,_,rfl,rfl, .of xM, .of LJ,rfl,rfl,_,rfl,?_⟩;rw[Ao];by_cases AJ:l=g
  ·rw[decide_eq_true AJ];refine g6 ?_;refine qq _ (.same (.refl _)) (G.iff (fun a b=>?_) (Nat.le_refl _));subst AJ;unfold pW;rw[hE,hE,hE,hE,hE,IC,ID];constructor
   ·rintro(z|⟨z1,z2⟩)
    ·exact z
    ·have y1:ld a=some l:=by rcases z1 with⟨y,h1,h2⟩|⟨y,h1,h2⟩<;>(cases h2;exact h1)
     have y2:ld b=some l:=by rcases z2 with⟨y,h1,h2⟩|⟨y,h1,h2⟩<;>(cases h2;exact h1)
     exact⟨l,y1,y2⟩
   ·exact .inl
  rw[decide_eq_false AJ];refine jH ?_;obtain⟨m1,IE⟩:=D.ml p l IC;obtain⟨m2,Hh⟩:=D.ml q g ID;obtain⟨al,kL,N_,AK,P1,_⟩:∃a us,bu km (a8 l)=some (.ref a)∧H2 a=some (.lst us)∧fO H2 us m1∧S a:=by have:=D.mv l;rw[IE]at this;exact this
  obtain⟨ag,iP,Px,Hi,P2,_⟩:∃a us,bu km (a8 g)=some (.ref a)∧H2 a=some (.lst us)∧fO H2 us m2∧S a:=by have:=D.mv g;rw[Hh]at this;exact this
  have gl:∀{tt:Addr}{r:Pr},H2 tt=some (.tup (jW r))→jG H2 dm (.ref tt) (bu km (a8 r)):=fun h=>jG.t (k:=a8 _) D.hm h
  have UH:∀{tt:Addr}{r:Pr},H2 tt=some (.tup (jW r))→jG H2 dl (.ref tt) (bu kl (a8 r)):=fun h=>jG.t (k:=a8 _) D.hl h
  refine⟨fun σ H3=>H3=H2∧∃l g tl tg p' q',σ=[sR x,sR t,sR u,sR tl,sR tg,none,none]∧l≠g∧H2 tl=some (.tup (jW l))∧H2 tg=some (.tup (jW g))∧ld p'=some l∧ld q'=some g∧∀a b,pW E1 p q a b↔pW E1 p' q' a b,?_,?_⟩
  ·refine⟨_,rfl,x,aD,dg,_,_,rfl,hg,Gc.cl,Gc.members,iG dl dm,_,rfl,dm,_,rfl,by have:=gl xM;rw[N_]at this;exact this,al,_,rfl, .inl (.of AK),?_⟩;refine⟨_,rfl,x,aD,dg,_,_,rfl,hg,Gc.cl,Gc.members,iG dl dm,_,rfl,dm,_,rfl,by have:=gl LJ;rw[Px]at this;exact this,ag,_,rfl, .inl (.of Hi),?_⟩;refine⟨_,_,rfl,rfl,_,rfl,?_⟩;refine bB (fun _=>?_) (fun _=>?_)
   ·refine⟨fun σ H3=>H3=H2∧σ=[sR x,sR t,sR u,sR tg,sR tg,none,none],⟨_,rfl,x,aD,dg,_,_,rfl,hg,Gc.cl,Gc.oa,ja dl dm,_,rfl,dl,_,rfl,by have:=UH Pe;rw[vg]at this;exact this,rfl,rfl⟩,?_⟩;rintro σ H3 ⟨rfl,rfl⟩;refine⟨_,rfl,x,aD,dg,_,_,rfl,hg,Gc.cl,Gc.oa,ja dl dm,_,rfl,dl,_,rfl,by have:=UH ht;rw[vl]at this;exact this,rfl,g,l,tg,tl,q,p,rfl,Ne.symm AJ,LJ,xM,ID,IC,fun a b=>BO⟩
   ·exact⟨rfl,l,g,tl,tg,p,q,rfl,AJ,xM,LJ,IC,ID,fun a b=>Iff.rfl⟩
  rintro σ H3 ⟨rfl,l,g,tl,tg,p',q',rfl,AJ,xM,LJ,IC,ID,Xl⟩;obtain⟨m1,IE⟩:=D.ml p' l IC;obtain⟨m2,Hh⟩:=D.ml q' g ID;obtain⟨al,kL,N_,AK,P1,UI⟩:∃a us,bu km (a8 l)=some (.ref a)∧H3 a=some (.lst us)∧fO H3 us m1∧S a:=by have:=D.mv l;rw[IE]at this;exact this
  obtain⟨ag,iP,Px,Hi,P2,YK⟩:∃a us,bu km (a8 g)=some (.ref a)∧H3 a=some (.lst us)∧fO H3 us m2∧S a:=by have:=D.mv g;rw[Hh]at this;exact this
  have YL:al≠ag:=fun z=>AJ (D.inj l g al N_ (by rw[Px,z]))
  have l1:=D.Bk (D.ms l m1 IE).1 (fun r hr=>⟨l,((D.ms l m1 IE).2 r).mp hr⟩);have l2:=D.Bk (D.ms g m2 Hh).1 (fun r hr=>⟨g,((D.ms g m2 Hh).2 r).mp hr⟩);have nx:x≠dl:=fun z=>E4 (by rw[z];exact D.sl)
  have Pt:x≠dm:=fun z=>E4 (by rw[z];exact D.sm)
  have Oa:al≠dl:=fun z=>by rw[z,D.hl]at AK;cases AK
  have Ob:al≠dm:=fun z=>by rw[z,D.hm]at AK;cases AK
  have Oc:ag≠dl:=fun z=>by rw[z,D.hl]at Hi;cases Hi
  have K4:ag≠dm:=fun z=>by rw[z,D.hm]at Hi;cases Hi
  have Z6:=P2.1;refine⟨fun σ H4=>H4=upd H3 dm (.dT (iJ km (a8 g)))∧σ=[sR x,sR t,sR u,sR tl,sR tg,sR ag,none],?_,?_⟩
  ·exact⟨_,rfl,x,aD,dg,_,_,rfl,hg,Gc.cl,Gc.members,iG dl dm,dm,rfl, .inr ⟨km, .of D.hm⟩,_,rfl,dm,tg,km,a8 g,_,rfl,rfl,D.hm,LJ,Px,rfl,rfl⟩
  rintro σ H4 ⟨rfl,rfl⟩;refine⟨fun σ H5=>(∃w,σ=[sR x,sR t,sR u,sR tl,sR tg,sR ag,w])∧∃tW,H5 dl=some (.dT tW)∧tW.length≤B∧(∀r,bu tW (a8 r)=if r∈m2 then some (.ref tl)else bu kl (a8 r))∧SameBut dl (upd H3 dm (.dT (iJ km (a8 g)))) H5,?_,?_⟩
  ·refine⟨_,rfl,ag,rfl,⟨_, .of (by rw[ai K4];exact Hi)⟩,?_⟩;refine eF (xs:=iP) (fun i σ H5=>(∃w,σ=[sR x,sR t,sR u,sR tl,sR tg,sR ag,w])∧∃tW,H5 dl=some (.dT tW)∧tW.length≤B∧(∀r,bu tW (a8 r)=if r∈m2.take i then some (.ref tl)else bu kl (a8 r))∧SameBut dl (upd H3 dm (.dT (iJ km (a8 g)))) H5) ?_ ?_ ?_ ?_
   ·exact⟨⟨_,rfl⟩,kl,by rw[ai D.ne];exact D.hl,Pq,fun r=>Zx, .refl⟩
   ·rintro i σ H5 _ ⟨_,tW,_,_,_,s5⟩;exact .of (s5 _ _ Oc (by rw[ai K4];exact Hi))
   ·rintro i v σ H5 hv ⟨⟨w,rfl⟩,tW,h5,Py,K5,s5⟩;have hi:i<m2.length:=by rw[←Z6];exact(Y' hv).1
    have ei:m2[i]?=some m2[i]:=by simp[hi]
    have iO:m2[i]∈m2:=List.getElem_mem hi;generalize m2[i]=r0 at ei iO;obtain⟨tr,k1,k2⟩:=P2.2 i r0 ei;rw[hv]at k1;cases k1;have UB:tr≠dl:=fun z=>by rw[z,D.hl]at k2;cases k2
    have R9:tr≠dm:=fun z=>by rw[z,D.hm]at k2;cases k2
    have k5:=s5 tr _ UB (by rw[ai R9];exact k2);have g5:=s5 x _ nx (by rw[ai Pt];exact hg);refine⟨_,rfl,_,rfl,x,aD,dg,_,_,rfl,g5,Gc.cl,Gc.oa,ja dl dm,_,rfl,dl,_,rfl, .t (k:=a8 r0) h5 k5 (bh Zq),⟨_,rfl⟩,_,ae,?_,fun r=>?_,s5.upd⟩
    ·have pz:bu tW (a8 r0)≠none:=by
      rw[K5];split
      ·simp
      ·have:=D.lv r0;rw[((D.ms g m2 Hh).2 r0).mp iO]at this;obtain⟨t0,z,_⟩:=this;rw[z];simp
     have:(putK tW (a8 r0) (.ref tl)).length=tW.length:=by
      unfold putK;rw[gZ,Zi (by cases z:bu tW (a8 r0)<;>simp_all),List.length_map]
     lia
    ·rw[jE,K5];have et:m2.take (i+1)=m2.take i++[r0]:=by rw[List.take_succ,ei];rfl
     rw[et];by_cases e:r=r0
     ·rw[Zi (by rw[e]),Zi (by simp[e])]
     ·rw[Ze (fun z=>e (dj z))];by_cases e2:r∈m2.take i
      ·rw[Zi e2,Zi (by simp[e2])]
      ·rw[Ze e2,Ze (by simp[e,e2])]
   ·rintro σ H5 ⟨⟨w,rfl⟩,tW,h5,Py,K5,s5⟩;rw[Z6,List.take_length]at K5;exact⟨⟨_,rfl⟩,tW,h5,Py,K5,s5⟩
  rintro σ H5 ⟨⟨w,rfl⟩,tW,h5,Py,K5,s5⟩;have R8:tl≠dl:=fun z=>by rw[z,D.hl]at xM;cases xM
  have R_:tl≠dm:=fun z=>by rw[z,D.hm]at xM;cases xM
  have g5:=s5 x _ nx (by rw[ai Pt];exact hg);have m5:=s5 dm _ (Ne.symm D.ne) ae;have UJ:=s5 al _ Oa (by rw[ai Ob];exact AK);have Xm:=s5 ag _ Oc (by rw[ai K4];exact Hi);have Xn:=s5 tl _ R8 (by rw[ai R_];exact xM);have vd:bu (iJ km (a8 g)) (a8 l)=some (.ref al):=by rw[lR,Ze (fun z=>AJ (dj z))];exact N_
  refine⟨_,rfl,x,aD,dg,_,_,rfl,g5,Gc.cl,Gc.members,iG dl dm,_,rfl,dm, .ref al,rfl,by have:=jG.t (k:=a8 l) m5 Xn;rw[vd]at this;exact this, .inl ⟨rfl,_, .of UJ⟩,_,rfl,al,ag,kL,iP,rfl,rfl,UJ,Xm,?_,?_⟩
  ·have:=P1.1;exact ax Zq
  have Xo:x≠al:=fun z=>E4 (by rw[z];exact UI)
  have IF:∀b o,¬S b→H3 b=some o→upd H5 al (.lst (kL++iP)) b=some o:=fun b o hb eb=>by
   rw[ai (fun z=>hb (by rw[z];exact UI))];exact s5 b o (fun z=>hb (by rw[z];exact D.sl)) (by rw[ai (fun z=>hb (by rw[z];exact D.sm))];exact eb)
  refine qq _ ⟨fun _ h=> .inl h,IF⟩ ?_;refine⟨dg,dl,dm,tW,iJ km (a8 g),_,_,IF x _ E4 hg,E4,D.NH (tl:=tl) AJ IE Hh N_ P1 P2 AK xM K5 (by rw[ai (Ne.symm Oa)];exact h5) (by rw[ai (Ne.symm Ob)];exact m5) ae ?_,fun a b=>(Xl a b).trans (KJ AJ IC ID (D.ms g m2 Hh).2 hE a b),Py,Nat.le_trans (xj _ _) LI⟩;intro b o h1 h2 h3 eb;rw[ai h3];exact s5 b o h1 (by rw[ai h2];exact eb)
variable(fj:mg "sorted"=none)
theorem sV:aJ ["self"] ["self"] (ao gQ):=iV
include T Gc fj in
theorem sW{f:Addr}{fd:FuncData}(F:ig K "told" "Groups.told" gQ f fd):bf P w K mg base (dD P w) true 1 f fd ["self"] (vR aD):=by
 refine F.iL sV Zs iW
 ·obtain⟨x,S,E1,B,rfl,_⟩:=h;rfl
 ·obtain⟨x,S,E1,B,rfl,G,hB,q⟩:=h;refine⟨_,(Zg (@aQ _ _ _ _ (@gM _ _ _ _ _ _ _ _ _ _ _ _ _ _ (by exact rfl) (show ba ["self"] (ao gQ) _ ["members"] [] []from AS) (@GB _ H _ _ _ _ _ (Y7 K (pv 0)) (Zw) (Zw) (Zw)) (fun _ _ _ _ _=>(Y6 (0) (show(["members"]:List Str).Nodup by decide+kernel) (Or.inl rfl))) (fun _ _ _ _ _=>fq) (fun _ _ _ _ _=>(Y4 (ZY K) fj PyProof.Rows.Boot.«sorted» (Y2 (pv 0) af))) (by intro _;rfl)))),?_⟩;obtain⟨dg,dl,dm,kl,km,ld,mm,hg,E4,D,hE,Pq,LI⟩:=G;refine⟨_,rfl,x,aD,dg,_,_,rfl,hg,Gc.cl,Gc.members,iG dl dm,dm,km,rfl,D.hm,fun o nf R hR=>?_⟩;have nR:R≠dm:=fun z=>by rw[z,ae]at hR;cases hR
  have R':H R=none:=by rw[ai nR]at hR;exact hR
  refine BL (fun k ys a7 H'=>(∃u,a7=[u])∧(∃gs,fT H' ys gs∧gs.length=k∧∀(i:Nat) ps,gs[i]?=some ps→∃l ms v,km[i]?=some (a8 l,v)∧mm l=some ms∧ps.Perm ms∧ps.Pairwise fun p q=>h_ p q=true)∧H' R=some (.lst ys)∧(∀b o,b≠dm→H b=some o→H' b=some o)∧H' dm=some (.q_ o (.dT km))∧∀(i:Nat) a,ys[i]?=some (.ref a)→H a=none∧a≠R) ⟨⟨_,rfl⟩,⟨[], .nil,rfl,fun i ps e=>by simp at e⟩,ae,fun b o hb e=>by rw[ai (aA e R'),ai hb];exact e,by rw[ai (Ne.symm nR),ae],fun i a e=>by simp at e⟩ ?_ ?_ ?_
  ·rintro k ys a7 H' _ ⟨_,_,_,_,h4,_⟩;exact h4
  ·rintro k ⟨key,v⟩ ys a7 H' hk ⟨⟨u,rfl⟩,⟨gs,W1,hl,LK⟩,Od,LL,IB,Bl⟩;obtain⟨l,el⟩:=D.key _ (Zd hk);have el:key=a8 l:=el;subst el;have vv:=AI D.AH hk;have mv:=D.mv l;cases e:mm l with
   |none=>
    rw[e]at mv;have mv:bu km (a8 l)=none:=mv;rw[mv]at vv;cases vv
   |some ms=>
    rw[e]at mv;obtain⟨a,us,z1,z2,z3,z4⟩:=mv;rw[vv]at z1;cases z1;obtain⟨nd,Ck⟩:=D.ms l ms e;have Se:a≠dm:=fun z=>by rw[z,D.hm]at z2;cases z2
    have T:dR H H':=fun b v hb=>LL b _ (fun z=>by rw[z,D.hm]at hb;cases hb) hb
    refine kY ?_;refine⟨_,rfl,a,us,ms,rfl, .of (LL _ _ Se z2),z3.cw T,nd,by have:=D.Bk nd (fun p hp=>⟨l,(Ck p).mp hp⟩);lia,fun D2 Fu qs mG P2 perm pw=>?_⟩;have Pz:D2≠R:=fun z=>by rw[z,Od]at mG;cases mG
    have UK:D2≠dm:=fun z=>by rw[z,IB]at mG;cases mG
    have Oe:H D2=none:=by
     cases z:H D2 with
     |none=>rfl
     |some o2=>rw[LL D2 o2 UK z]at mG;cases mG
    have Xp:=W1.1;have Uh:k<km.length:=(Y' hk).1;refine⟨by rw[ai (Ne.symm Pz)];exact Od,bh Zq,⟨_,rfl⟩,⟨gs++[qs],?_,by simp;lia,fun i ps hi=>?_⟩,ae,fun b o hb eb=>?_,?_,fun i a ha=>?_⟩
    ·have W2:fT (upd H' D2 (.lst Fu)) ys gs:=W1.same (ar.upd mG);have W3:fT (upd H' D2 (.lst Fu)) (ys++[.ref D2]) (gs++[qs]):=W2.append (.one ae (P2.same (ar.upd mG)));refine W3.put (fun i e=>?_) (by rw[ai (Ne.symm Pz)];exact Od);by_cases hi:i<ys.length
     ·rw[List.getElem?_append_left hi]at e;exact(Bl i R e).2 rfl
     ·have:=(Y' e).1;have:i=ys.length:=by simp at this;lia
      subst this;simp at e;exact Pz e
    ·by_cases yp:i<gs.length
     ·rw[List.getElem?_append_left yp]at hi;exact LK i ps hi
     ·have:=(Y' hi).1;have:i=gs.length:=by simp at this;lia
      subst this;simp at hi;subst hi;exact⟨l,ms,_,by rw[hl];exact hk,e,perm,pw⟩
    ·rw[ai (aA eb R'),ai (aA eb Oe)];exact LL b o hb eb
    ·rw[ai (Ne.symm nR),ai (Ne.symm UK)];exact IB
    ·by_cases hi:i<ys.length
     ·rw[List.getElem?_append_left hi]at ha;exact Bl i a ha
     ·have:=(Y' ha).1;have:i=ys.length:=by simp at this;lia
      subst this;simp at ha;subst ha;exact⟨Oe,Pz⟩
  ·rintro ys a7 H' ⟨_,⟨gs,W1,hl,LK⟩,Od,LL,IB,Bl⟩;refine q _ R ys gs ⟨fun a h=> .inl h,fun b o hb eb=>LL b o (fun z=>hb (by rw[z];exact D.sm)) eb⟩ R' Od W1 (fun k a h=>(Bl k a h).1) ?_;have at_:∀ps∈gs,∃l ms,mm l=some ms∧ps.Perm ms∧ps.Pairwise (fun p q=>h_ p q=true):=fun ps BH=>by
    obtain⟨i,hi⟩:=List.getElem?_of_mem BH;obtain⟨l,ms,v,_,h2,h3,h4⟩:=LK i ps hi;exact⟨l,ms,h2,h3,h4⟩
   refine⟨fun ps BH=>?_,fun ps BH=>?_,fun ps BH a ha b=>?_,fun a ha=>?_,?_⟩
   ·obtain⟨_,_,_,_,h4⟩:=at_ ps BH
    exact h4
   ·obtain⟨l,ms,h2,h3,_⟩:=at_ ps BH
    intro z;subst z;have:l∈ms:=((D.ms l ms h2).2 l).mpr (D.self l ms h2);have:=h3.mem_iff.mpr this;cases this
   ·obtain⟨l,ms,h2,h3,_⟩:=at_ ps BH
    have ha:=((D.ms l ms h2).2 a).mp (h3.mem_iff.mp ha);rw[h3.mem_iff,(D.ms l ms h2).2,hE,ha];exact⟨fun z=>⟨l,rfl,z⟩,fun⟨y,h,z⟩=>by cases h;exact z⟩
   ·obtain⟨l,h1,_⟩:=(hE a a).mp ha;obtain⟨ms,Ck⟩:=D.ml a l h1;have mv:=D.mv l;rw[Ck]at mv;obtain⟨aa,us,z1,_⟩:=mv;obtain⟨i,hi⟩:=xK z1;have ie:i<gs.length:=by rw[hl];exact(Y' hi).1
    obtain⟨l2,Xq,v,h5,h6,h7,_⟩:=LK i gs[i] (by simp[ie]);rw[hi]at h5;have:l=l2:=dj (Prod.mk.inj (Zp h5)).1;subst this;refine⟨gs[i],List.getElem_mem ie,h7.mem_iff.mpr ?_⟩;exact((D.ms l Xq h6).2 a).mpr h1
   ·rw[List.pairwise_iff_getElem];intro i j hi hj nZ a ha hb;obtain⟨l1,m1,v1,a1,a2,a3,_⟩:=LK i gs[i] (by simp[hi]);obtain⟨l2,m2,v2,b1,b2,b3,_⟩:=LK j gs[j] (by simp[hj]);have ha:=((D.ms l1 m1 a2).2 a).mp (a3.mem_iff.mp ha);have hb:=((D.ms l2 m2 b2).2 a).mp (b3.mem_iff.mp hb);rw[ha]at hb;cases hb;have nd:=D.AH;have h1:(km.map (·.1))[i]?=some (a8 l1):=by rw[List.getElem?_map,a1];rfl
    have h2:(km.map (·.1))[j]?=some (a8 l1):=by rw[List.getElem?_map,b1];rfl
    have:=(List.getElem?_inj (Y' h1).1 nd).mp (h1.trans h2.symm)
    lia
variable(lZ:mD P w K mg base true 1 "Groups" aD ["self"] [] (su aD))
variable(Hc:Io K au)
theorem kI:aJ ["self","trails","worth"] ["self","trails","worth"] (ao eM):=iV
include T lZ Hc in
theorem kJ{f:Addr}{fd:FuncData}(F:ig K "__init__" "Gathering.__init__" eM f fd):bf P w K mg base (dD P w) true 3 f fd ["self","trails","worth"] (pX au aD):=by
 refine F.iL kI Zs iW
 ·obtain⟨x,dx,tr,W,rfl,_⟩:=h;rfl
 ·obtain⟨x,dx,tr,W,rfl,hx,q⟩:=h;refine⟨_,(Zn (Zo K (pv 0) (pv 1)) (Zn (Zo K (pv 0) (pv 2)) (Zn (Zo K (pv 0) (@En _ _ _ _ _ _ _ _ _ _ _ lZ (hr.mono (Zv)) hX.pass (Zw) (Zv))) (Zg (Zo K (pv 0) kT))))),?_⟩;refine⟨_,rfl,_,rfl,x,au,dx,_,rfl,hx,Hc.cl,Hc.sF,Zv,?_⟩;refine⟨_,rfl,_,rfl,x,au,dx,_,rfl,ae,Hc.cl,Hc.worth,by have:=aW "trails" (.ref tr) [];simp at this;lia,?_⟩;rw[fQ];refine fun g dg hg PB dE=>?_
  have Of:x≠g:=fun z=>by rw[←z,ae]at hg;cases hg
  have Sg:x≠dg:=fun z=>by rw[←z,ae]at PB;cases PB
  have Og:H g=none:=by rw[ai (Ne.symm Of)]at hg;exact hg
  have Oh:H dg=none:=by rw[ai (Ne.symm Sg)]at PB;exact PB
  refine⟨g,dg,rfl,ae,fun H1 S1 wW Sh G1=>⟨rfl,?_⟩⟩;have keep:∀b o,b≠x→H b=some o→H1 b=some o:=fun b o hb e=>wW b o (aA e Og) (by rw[ai (aA e Og),ai (aA e Oh),ai hb];exact e)
  have kW:H1 x=some (.ins au dx (bo "worth" (.int W) (bo "trails" (.ref tr) []))):=wW x _ Of (by rw[ai Of,ai Sg];exact ae);have l2:(bo "worth" (.int W) (bo "trails" (.ref tr) [])).length≤2:=by
   have:=aW "trails" (.ref tr) [];have:=aW "worth" (.int W) (bo "trails" (.ref tr) []);simp at*;lia
  refine⟨_,rfl,x,au,dx,_,rfl,kW,Hc.cl,Hc.groups,by lia,?_⟩;refine fun dk PD=>?_
  have LM:x≠dk:=fun z=>by rw[←z,ae]at PD;cases PD
  have E5:H1 dk=none:=by rw[ai (Ne.symm LM)]at PD;exact PD
  have Si:H dk=none:=by
   cases e:H dk with
   |none=>rfl
   |some o=>rw[keep dk o (Ne.symm LM) e]at E5;cases E5
  refine⟨_,rfl,x,au,dx,_,rfl,by rw[ai LM];exact ae,Hc.cl,Hc.marks,by have:=aW "groups" (.ref g) (bo "worth" (.int W) (bo "trails" (.ref tr) []));lia,?_⟩;rw[KP];have PF:¬S1 x:=fun z=>by
   have:=Sh x z;rw[ai Of,ai Sg,ae]at this;cases this
  have Xr:¬S1 g:=fun z=>by
   have:=Sh g z;rw[ae]at this;cases this
  have G2:=G1.nt;have fin:∀b o,b≠x→H1 b=some o→upd (upd (upd H1 x (.ins au dx (bo "groups" (.ref g) (bo "worth" (.int W) (bo "trails" (.ref tr) []))))) dk (.dT [])) x (.ins au dx (jx tr W g dk)) b=some o:=fun b o hb e=>by
   rw[ai hb,ai (aA e E5),ai hb];exact e
  have Sj:¬(S1 dk∧NT H1 dk):=fun z=>by
   obtain⟨o,e,_⟩:=z.2;rw[E5]at e;cases e
  refine q _ (fun a=>(S1 a∧NT H1 a)∨a=dk) (fun b o hb e=>fin b o hb (keep b o hb e)) (fun a ha=>?_) ⟨dx,g,dk,[],fun a=>S1 a∧NT H1 a,ae,G2.keep (fun a o hs e=>fin a o (fun z=>PF (by rw[←z];exact hs.1)) e) (fun b v hb=>fin b _ (fun z=>by rw[z,kW]at hb;cases hb) hb) (fun o e=>fin g o (Ne.symm Of) e),by rw[ai (Ne.symm LM),ae],fun c=>rfl,Nat.le_refl _,fun a=>Iff.rfl,Sj,fun z=>z.elim (fun y=>PF y.1) LM,fun z=>z.elim (fun y=>Xr y.1) (fun y=>?_),fun a ha=>?_⟩
  ·rcases ha with ha|ha
   ·have:=Sh a ha.1;cases e:H a with
    |none=>rfl
    |some o=>rw[ai (aA e Og),ai (aA e Oh),ai (fun z=>PF (by rw[←z];exact ha.1)),e]at this;cases this
   ·rw[ha];exact Si
  ·obtain⟨YM,dl,dm,kl,GU,ld,mm,og,_⟩:=G1;rw[y,E5]at og;cases og
  ·rcases ha with⟨h1,o,h2,h3⟩|ha
   ·exact⟨o,fin a o (fun z=>PF (by rw[←z];exact h1)) h2,h3⟩
   ·exact⟨_,by rw[ha,ai (Ne.symm LM),ae],fun v=>(Zx)⟩
variable(cJ:dX P w K mg base true 1 aD "unite" ["self","pair","other"] (sC aD))
theorem oB:aJ ["self","crossing","pair"] ["self","crossing","pair"] (ao eZ):=iV
include T Hc cJ in
theorem oC{f:Addr}{fd:FuncData}(F:ig K "mark" "Gathering.mark" eZ f fd):bf P w K mg base (dD P w) true 2 f fd ["self","crossing","pair"] (sG au aD):=by
 refine F.iL oB Zs iW
 ·obtain⟨x,tc,tp,tr,W,c,r,S,s1,B,M,rfl,_⟩:=h;rfl
 ·obtain⟨x,tc,tp,tr,W,c,r,S,s1,B,M,rfl,G,hc,hp,KL,h0,hB,hM,q⟩:=h;have hu:=hr.units;have hu:(A.deeper (PyProof.Rows.envOfC "Gathering.mark" (ao eZ) s.heap.objs.size f gw)).units+1<cLine:=by lia
  refine⟨_,(Zg (Zm (Zk (@rP _ _ _ _ _ hu (pv 1) (Y7 K (pv 0)))) (Zg (@bg _ _ _ _ (Zb (Y7 K (pv 0)) cJ (hr.mono (Zv)) aV (Y2 (@iu _ _ _ _ _ _ hu (Y7 K (pv 0)) (pv 1) (fun _ _=>rfl)) (Y2 (pv 2) af))) (Zw))) (Zg (@lN _ _ _ _ _ _ _ _ _ hu (Y7 K (pv 0)) (pv 1) (pv 2) (by exact rfl))))),?_⟩;obtain⟨dx,g,dk,km,S1,D⟩:=id G;refine⟨_,rfl,_,rfl,x,au,dx,_,_,rfl,D.ob,Hc.cl,Hc.marks,lb tr W g dk,dk,_,rfl, .t (k:=a8 c) D.hk hc,_,rfl,?_⟩;have mv:=D.mv c;cases e:s1.2 c with
  |none=>
   rw[e]at mv;have mv:bu km (a8 c)=none:=mv;rw[mv];refine g6 ?_;have hl:=D.len;refine⟨_,rfl,_,rfl,x,au,dx,_,_,rfl,D.ob,Hc.cl,Hc.marks,lb tr W g dk,_,rfl,dk,_,rfl, .t (k:=a8 c) D.hk hc (bh Zq),?_⟩;obtain⟨u,D'⟩:=D.put (c:=c) hp;refine q _ S u ⟨dx,g,dk,putK km (a8 c) (.ref tp),S1,?_⟩;unfold xN;rw[e];exact D'
  |some r0=>
   rw[e]at mv;obtain⟨t0,v0,Xs⟩:=mv;rw[v0];refine jH ?_;obtain⟨dg,dl,dm,kl,GU,ld,mm,og,_⟩:=id D.gr;refine⟨_,rfl,x,au,dx,_,_,rfl,D.ob,Hc.cl,Hc.groups,iH tr W g dk,g,dg,_,rfl,og,AG dl dm,_,rfl,x,au,dx,_,_,rfl,D.ob,Hc.cl,Hc.marks,lb tr W g dk,_,rfl,dk,_,rfl,by have:=jG.t (k:=a8 c) D.hk hc;rw[v0]at this;exact this,_,rfl,g,t0,tp,r0,r,S1,s1.1,B,rfl,D.gr,Xs,hp,h0 r0 e,KL,hB,fun H' u G'=>?_⟩;obtain⟨S',S2,u2,D2⟩:=D.Pf u G';refine q _ S' u2 ⟨dx,g,dk,km,S2,?_⟩;unfold xN;rw[e];exact⟨D2.ob,D2.gr,D2.hk,D2.mv,by have:=D2.len;lia,D2.sS,D2.AH,D2.nx,D2.ng,D2.nt⟩
variable(bU:dX P w K mg base true 1 aD "take_in" ["self","pair"] (vQ aD))
variable(bV:dX P w K mg base true 2 au "mark" ["self","crossing","pair"] (sG au aD))
theorem eR:aJ ["self","crossing","pair","later","before"] ["self","crossing","pair"] (ao c7):=iV
include T a9 aX Hc cJ bU bV in
theorem lz{f:Addr}{fd:FuncData}(F:ig K "go_over" "Gathering.go_over" c7 f fd):bf P w K mg base (dD P w) true 3 f fd ["self","crossing","pair"] (sJ au aD av):=by
 refine F.iL eR Zs iW
 ·obtain⟨x,tc,tp,tr,dt,e,b,es,bs,f,o,p,n,m,W,i,j,r,S,s1,B,M,H0,rfl,_⟩:=h;rfl
 ·obtain⟨x,tc,tp,tr,dt,e,b,es,bs,f1,o,p,n,m,W,i,j,r,S,s1,B,M,H0,rfl,G,TR,BA,hc,hp,hi,hj,TP,OK,hs,hB,hM,q⟩:=h;have hu:=hr.units;have hu:(A.deeper (PyProof.Rows.envOfC "Gathering.go_over" (ao c7) s.heap.objs.size f gw)).units+1<cLine:=by lia
  refine⟨_,(Zf (Y3 (3) eR.nd (@iu _ _ _ _ _ _ hu (Y7 K (pv 0)) (pv 1) (fun _ _=>rfl))) (Zf (Zm (@bQ _ _ _ (Zb (Y7 K (pv 0)) a9 (hr.mono (Zv)) aV (Y2 (pv 1) (Y2 (pv 2) af))) (by intro _;rfl)) (Zf (@bg _ _ _ _ (Zb (Y7 K (pv 0)) bU (hr.mono (Zv)) aV (Y2 (pv 2) af)) (Zw)) (Zg (@bg _ _ _ _ (Zb (Y7 K (pv 0)) cJ (hr.mono (Zv)) aV (Y2 (pv 2) (Y2 (pv 3) af))) (Zw)))) aR) (Zg (@dI _ _ _ _ _ _ _ _ hX.own Zt (@cj _ K _ _ _ (Zb (Y7 K (pv 0)) aX (hr.mono (Zv)) aV (Y2 (pv 1) af)) (Zw)) (Y6 (4) eR.nd (Or.inl rfl)) (Zg (@bg _ _ _ _ (Zb (pv 0) bV (hr.mono (Zv)) aV (Y2 (pv 4) (Y2 (pv 3) af))) (Zw))) (by intro _;rfl))))),?_⟩;obtain⟨dx,g,dk,km,S1,D⟩:=id G;obtain⟨tl,vl,xM⟩:∃tl,bu km (a8 (aO (i+1,j+1)))=some (.ref tl)∧H tl=some (.tup (jW r)):=by have:=D.mv (aO (i+1,j+1));rw[hs]at this;exact this
  obtain⟨LG,i2,j2,e2,OV⟩:=OK.mr _ _ hs;obtain⟨rfl,rfl⟩:=iA e2;refine⟨fun σ H1=>H1=H∧σ=[sR x,sR tc,sR tp,sR tl,none],⟨_,rfl,x,au,dx,_,_,rfl,D.ob,Hc.cl,Hc.marks,lb tr W g dk,_,rfl,dk,_,rfl,by have:=jG.t (k:=a8 (aO (i+1,j+1))) D.hk hc;rw[vl]at this;exact this,rfl,rfl⟩,?_⟩;rintro σ H1 ⟨rfl,rfl⟩;have T1:=TR.keep BA.same;refine⟨fun σ H2=>σ=[sR x,sR tc,sR tp,sR tl,none]∧∃S',n_ S H1 S' H2∧g_ H2 au aD x tr W S' (Il f1 o p i j s1 r) (B+1) M,?_,?_⟩
  ·refine⟨_,rfl,x,au,dx,_,_,rfl,D.ob,Hc.cl,Hc.sF,lU tr W g dk,tr,dt,_,rfl,T1.ob,Ii o p e b,_,rfl,_,rfl,tr,dt,e,b,es,bs,f1,o,p,n,m,tc,tp,i+1,j+1,i,j,rfl,T1,hc,hp,by lia,by lia,hi,hj,_,rfl,?_⟩;unfold Il;refine bB (fun hh=>?_) (fun hh=>?_)
   ·have hh:=of_decide_eq_true hh;rw[Zi hh];refine⟨fun σ H2=>σ=[sR x,sR tc,sR tp,sR tl,none]∧∃S',n_ S H1 S' H2∧g_ H2 au aD x tr W S' (Ik s1.1 (aO (i,j)),s1.2) (B+1) M,?_,?_⟩
    ·obtain⟨dg,dl,dm,kl,GU,ld,mm,og,_⟩:=id D.gr;refine⟨_,rfl,x,au,dx,_,_,rfl,D.ob,Hc.cl,Hc.groups,iH tr W g dk,g,dg,_,rfl,og,Es dl dm,_,rfl,g,tp,aO (i,j),S1,s1.1,B,rfl,D.gr,hp,by lia,fun H' KS u G'=>?_⟩;obtain⟨S',S2,u2,D2⟩:=D.Pf u G';exact⟨rfl,S',u2,dx,g,dk,km,S2,D2⟩
    rintro σ H2 ⟨rfl,S',u2,G2⟩;obtain⟨PK,g2,PL,GU,S2,D2⟩:=id G2;have T:=u2.cw G.nt;obtain⟨dg,dl,dm,kl,YN,ld,mm,og,_⟩:=id D2.gr;refine⟨_,rfl,x,au,PK,_,_,rfl,D2.ob,Hc.cl,Hc.groups,iH tr W g2 PL,g2,dg,_,rfl,og,AG dl dm,_,rfl,_,rfl,g2,tp,tl,aO (i,j),r,S2,_,B+1,rfl,D2.gr,T _ _ hp,T _ _ xM, .inr ⟨rfl,rfl⟩, .inl LG,by lia,fun H' u G'=>?_⟩;obtain⟨Pc,S3,u3,D3⟩:=D2.Pf u G';exact⟨rfl,Pc,u2.trans u3,PK,g2,PL,GU,S3,D3⟩
   ·have hh:¬cZ f1 o p i j=Bq f1 o p (i+1) (j+1):=fun z=>hh (decide_eq_true z)
    rw[Ze hh];exact⟨rfl,S, .same (.refl _),G.cast rfl (by lia) (Nat.le_refl _)⟩
  rintro σ H2 ⟨rfl,S2,u2,G2⟩;obtain⟨Xu,UL,_⟩:=Ez TP OK LG OV;have AW:=BA.ups u2;have T2:=TR.keep AW.same;have TT:=u2.cw G.nt;obtain⟨PK,g2,PL,GU,S3,D2⟩:=id G2;refine⟨_,rfl,x,au,PK,_,_,rfl,D2.ob,Hc.cl,Hc.sF,lU tr W g2 PL,tr,dt,_,rfl,T2.ob,AE o p e b,_,rfl,tr,dt,e,b,es,bs,f1,o,p,n,m,tc,i,j,rfl,T2,TT _ _ hc,hi,hj,fun H3 rr us s3 qD vX P3=>?_⟩;refine⟨rr,rfl,⟨_, .of vX⟩,?_⟩;have hlen:(bp f1 o p i j).length≤2:=by
   unfold bp;rw[List.length_append];split<;>split<;>simp
  have Xv:=qC TP OV;refine eF (xs:=us) (fun k σ H4=>(∃w,σ=[sR x,sR tc,sR tp,sR tl,w])∧∃S4,n_ S H1 S4 H4∧g_ H4 au aD x tr W S4 (((bp f1 o p i j).take k).foldl (fun s c=>xN s c r) (Il f1 o p i j s1 r)) (B+1) (M+k)∧H4 rr=some (.lst us)∧fO H4 us (bp f1 o p i j)∧¬S4 rr∧H4 tl=some (.tup (jW r))) ?_ ?_ ?_ ?_
  ·have G3:=G2.same s3;refine⟨⟨_,rfl⟩,S2,u2.trans (.same s3),G3.cast Zr (Nat.le_refl _) (Nat.le_refl _),vX,P3,G2.out qD,s3 _ _ (TT _ _ xM)⟩
  ·rintro k σ H4 _ ⟨_,S4,_,_,h4,_⟩;exact .of h4
  ·rintro k v σ H4 hv ⟨⟨w,rfl⟩,S4,u4,G4,h4,P4,n4,t4⟩;have hk:k<(bp f1 o p i j).length:=by rw[←P4.1];exact(Y' hv).1
   have ek:(bp f1 o p i j)[k]?=some (bp f1 o p i j)[k]:=by simp[hk]
   have iO:(bp f1 o p i j)[k]∈bp f1 o p i j:=List.getElem_mem hk;generalize (bp f1 o p i j)[k]=c at ek iO;obtain⟨t,k1,k2⟩:=P4.2 k c ek;rw[hv]at k1;cases k1;obtain⟨Xw,Xx,_⟩:=sD TP ((bp f1 o p i j).take k) _ Xu (UL.e _ _ LG) (fun c hc=>Xv c (List.mem_of_mem_take hc));obtain⟨Xy,g4,Xz,YO,S5,D4⟩:=id G4;refine⟨_,rfl,x,Xy,_,rfl,D4.ob,AL tr W g4 Xz,_,rfl,_,rfl,x,t,tl,tr,W,c,r,S4,_,B+1,M+k,rfl,G4,k2,t4,Xx.e _ _ (UL.e _ _ LG),fun r0 h=>(Xw.mr _ _ h).1,by lia,by lia,fun H5 S6 u5 G5=>?_⟩;have T5:=u5.cw G4.nt;refine⟨⟨_,rfl⟩,S6,u4.trans u5,G5.cast ?_ (Nat.le_refl _) (by lia),u5.keep rr _ n4 h4,P4.cw T5,u5.out n4 h4,T5 _ _ t4⟩;rw[List.take_succ,ek];simp
  ·rintro σ H4 ⟨⟨w,rfl⟩,S4,u4,G4,h4,P4,n4,t4⟩;refine q _ S4 u4 (G4.cast ?_ (Nat.le_refl _) (by have:=P4.1;lia));rw[P4.1,List.take_length];rfl
variable(iC:dX P w K mg base true 1 aD "has" ["self","pair"] (ZJ aD))
variable(c8:dX P w K mg base true 3 au "go_over" ["self","crossing","pair"] (sJ au aD av))
theorem fD:aJ ["self","i","j","pair","behind"] ["self","i","j"] (ao d_):=iV
include T Rc bT Hc bU bV iC c8 in
theorem nq{f:Addr}{fd:FuncData}(F:ig K "visit" "Gathering.visit" d_ f fd):bf P w K mg base (dD P w) true 4 f fd ["self","i","j"] (pY au aD av):=by
 refine F.iL fD Zs iW
 ·obtain⟨x,tr,dt,e,b,es,bs,f,o,p,n,m,W,i,j,S,s1,B,M,H0,rfl,_⟩:=h;rfl
 ·obtain⟨x,tr,dt,e,b,es,bs,f1,o,p,n,m,W,i,j,S,s1,B,M,H0,rfl,G,TR,BA,hi,hj,hn,hm,TP,OK,hB,hM,q⟩:=h;have hu:=hr.units;have hu:(A.deeper (PyProof.Rows.envOfC "Gathering.visit" (ao d_) s.heap.objs.size f gw)).units+1<cLine:=by lia
  refine⟨_,(Zf (Y3 (3) fD.nd (@e_ _ _ _ _ _ (Y2 (pv 1) (Y2 (pv 2) af)))) (Zf (Y3 (4) fD.nd (@e_ _ _ _ _ _ (Y2 (Za c_ (pv 1) aq) (Y2 (Za c_ (pv 2) aq) af)))) (Zf (Zm (@aZ _ _ _ _ _ _ _ _ jD (Y8 (aG K) (Y8 (aG K) (Y7 K (Y7 K (pv 0))) (pv 1)) (pv 2)) (Y7 K (pv 0)) (aY _)) (Zg (@bg _ _ _ _ (Zb (Y7 K (pv 0)) bU (hr.mono (Zv)) aV (Y2 (pv 3) af)) (Zw))) aR) (Zf (Zm (Zk (@rP _ _ _ _ _ hu (pv 4) (Y7 K (pv 0)))) (Zg (@bg _ _ _ _ (Zb (pv 0) c8 (hr.mono (Zv)) aV (Y2 (pv 4) (Y2 (pv 3) af))) (Zw))) aR) (Zg (Zm (@PW.pt _ _ _ (@pw_and _ _ _ _ _ _ _ (@bQ _ _ _ (Zb (Y7 K (pv 0)) iC (hr.mono (Zv)) aV (Y2 (pv 3) af)) (by intro _;rfl)) (@pw_and1 _ _ _ _ (@bQ _ _ _ (Zb (Y7 K (pv 0)) bT (hr.mono (Zv)) aV (Y2 (pv 3) af)) (by intro _;rfl))))) (Zg (@bg _ _ _ _ (Zb (pv 0) bV (hr.mono (Zv)) aV (Y2 (pv 3) (Y2 (pv 3) af))) (Zw))) aR)))))),?_⟩;refine⟨fun σ H1=>∃t,σ=[sR x,sI i,sI j,sR t,none]∧ar H H1∧H1 t=some (.tup (jW (aO (i,j)))),⟨_,rfl,_,rfl,ax Zr,fun t ht=>⟨t,rfl,ar.upd ht,ae⟩⟩,?_⟩;rintro σ H1 ⟨t,rfl,s2,ht⟩;refine⟨fun σ H2=>∃u,σ=[sR x,sI i,sI j,sR t,sR u]∧ar H1 H2∧H2 u=some (.tup (jW (aO (i+1,j+1)))),⟨_,rfl,_,_,rfl,rfl,_,rfl,_,_,rfl,rfl,ax Zr,fun u hu=>⟨u,rfl,ar.upd hu,ae⟩⟩,?_⟩;rintro σ H2 ⟨u,rfl,s3,Pb⟩;have yx:=s3 _ _ ht;have Sk:=s2.trans s3;have G2:=G.same Sk;have AW:=BA.more Sk;have T2:=TR.keep AW.same;obtain⟨rb,g1,g2,g3⟩:=T2.te.at hi;refine⟨fun σ H3=>σ=[sR x,sI i,sI j,sR t,sR u]∧∃S',n_ S H2 S' H3∧g_ H3 au aD x tr W S' (GQ f1 o p W i j s1) (B+1) M,?_,?_⟩
  ·obtain⟨dx,g,dk,km,S1,D⟩:=id G2;refine⟨_,rfl,x,au,dx,_,_,rfl,D.ob,Hc.cl,Hc.sF,lU tr W g dk,tr,av,dt,_,_,rfl,T2.ob,Rc.cl,Rc.j8,g8 o p e b,_,rfl,e,_,_,_,rfl,rfl, .of T2.he,aF g2,_,rfl,rb,_,_,_,rfl,rfl, .of g3,aF (cT hj),_,rfl,x,au,dx,_,_,rfl,D.ob,Hc.cl,Hc.worth,ED tr W g dk,?_⟩;have IA:decide (bJ (cZ f1 o p i j)=V.int W)=decide (cZ f1 o p i j=some W):=by cases cZ f1 o p i j<;>simp[bJ]
   refine⟨by cases cZ f1 o p i j<;>rfl,_,rfl,?_⟩;rw[IA];unfold GQ;refine bB (fun hh=>?_) (fun hh=>?_)
   ·have hh:=of_decide_eq_true hh;rw[Zi hh];obtain⟨dg,dl,dm,kl,GU,ld,mm,og,_⟩:=id D.gr;refine⟨_,rfl,x,au,dx,_,_,rfl,D.ob,Hc.cl,Hc.groups,iH tr W g dk,g,dg,_,rfl,og,Es dl dm,_,rfl,g,t,aO (i,j),S1,s1.1,B,rfl,D.gr,yx,by lia,fun H' KS u G'=>?_⟩;obtain⟨S',S2,u2,D2⟩:=D.Pf u G';exact⟨rfl,S',u2,dx,g,dk,km,S2,D2⟩
   ·have hh:¬cZ f1 o p i j=some W:=fun z=>hh (decide_eq_true z)
    rw[Ze hh];exact⟨rfl,S, .same (.refl _),G2.cast rfl (by lia) (Nat.le_refl _)⟩
  rintro σ H3 ⟨rfl,S3,u3,G3⟩;have PM:=u3.cw G2.nt;have Hj:=AW.ups u3;obtain⟨XA,GW1,_⟩:=EA OK i j;refine⟨fun σ H4=>σ=[sR x,sI i,sI j,sR t,sR u]∧∃S',n_ S3 H3 S' H4∧g_ H4 au aD x tr W S' (Cm f1 o p W i j s1) (B+2) (M+2),?_,?_⟩
  ·obtain⟨dx,g,dk,km,S1,D⟩:=id G3;refine⟨_,rfl,_,rfl,x,au,dx,_,_,rfl,D.ob,Hc.cl,Hc.marks,lb tr W g dk,dk,_,rfl, .t (k:=a8 (aO (i+1,j+1))) D.hk (PM _ _ Pb),_,rfl,?_⟩;have mv:=D.mv (aO (i+1,j+1));have ee:(GQ f1 o p W i j s1).2=s1.2:=rfl;rw[ee]at mv;unfold Cm;cases e9:s1.2 (aO (i+1,j+1))with
   |none=>
    rw[e9]at mv;have mv:bu km (a8 (aO (i+1,j+1)))=none:=mv;rw[mv];refine g6 ?_;exact⟨rfl,S3, .same (.refl _),G3.cast rfl (by lia) (by lia)⟩
   |some r=>
    rw[e9]at mv;obtain⟨tl,vl,xM⟩:=mv;rw[vl];refine jH ?_;exact⟨_,rfl,x,dx,_,rfl,D.ob,GR tr W g dk,_,rfl,_,rfl,x,u,t,tr,dt,e,b,es,bs,f1,o,p,n,m,W,i,j,r,S3,_,B+1,M,H0,rfl,G3,TR,Hj,PM _ _ Pb,PM _ _ yx,hi,hj,TP,XA,e9,by lia,by lia,fun H' S' u G'=>⟨rfl,S',u,G'⟩⟩
  rintro σ H4 ⟨rfl,S4,u4,G4⟩;have XB:=u4.cw G3.nt;have XC:=Hj.ups u4;have T4:=TR.keep XC.same;have PN:=XB _ _ (PM _ _ yx);obtain⟨XD,GW2,_⟩:=EB TP OK i j;have uu:n_ S H S4 H4:=(n_.same Sk).trans (u3.trans u4);obtain⟨dx,g,dk,km,S1,D⟩:=id G4;obtain⟨dg,dl,dm,kl,GU,ld,mm,og,_⟩:=id D.gr;refine⟨_,rfl,x,au,dx,_,_,rfl,D.ob,Hc.cl,Hc.groups,iH tr W g dk,g,dg,_,rfl,og,ND dl dm,_,rfl,g,t,aO (i,j),S1,_,B+2,rfl,D.gr,PN,fun b1 uZ=>?_⟩;refine⟨_,rfl,?_⟩;refine bB (fun hh=>?_) (fun hh=>?_)
  ·refine⟨_,rfl,x,au,dx,_,_,rfl,D.ob,Hc.cl,Hc.sF,lU tr W g dk,tr,dt,_,rfl,T4.ob,Eo o p e b,_,rfl,tr,dt,e,b,es,bs,f1,o,p,n,m,t,i,j,rfl,T4,PN,by lia,by lia,_,rfl,?_⟩;refine bB (fun h2=>?_) (fun h2=>?_)
   ·have pz:=uZ.mp hh;refine⟨_,rfl,x,dx,_,rfl,D.ob,AL tr W g dk,_,rfl,_,rfl,x,t,t,tr,W,aO (i,j),aO (i,j),S4,_,B+2,M+2,rfl,G4,PN,PN,pz,fun r0 h=>(XD.mr _ _ h).1,by lia,by lia,fun H5 S5 u5 G5=>?_⟩;refine q _ S5 (uu.trans u5) ?_;unfold yu;rw[Zi ⟨pz,h2⟩];exact G5
   ·refine q _ S4 uu (G4.cast ?_ Zq (by lia));unfold yu;rw[Ze (fun z=>h2 z.2)]
  ·refine g6 ?_;refine q _ S4 uu (G4.cast ?_ Zq (by lia));unfold yu;rw[Ze (fun z=>hh (uZ.mpr z.1))]
variable(iD:mD P w K mg base true 3 "Gathering" au ["self","trails","worth"] [] (pX au aD))
variable(eC:dX P w K mg base true 4 au "visit" ["self","i","j"] (pY au aD av))
variable(gS:dX P w K mg base true 1 aD "told" ["self"] (vR aD))
theorem f_:aJ ["trails","worth","gathering","i","j"] ["trails","worth"] (ao jy):=iV
include T Rc Hc iD eC gS in
theorem sX{f:Addr}{fd:FuncData}(F:lO K "best_groups" "best_groups" jy f fd):bf P w K mg base (dD P w) true 5 f fd ["trails","worth"] (ZH av):=by
 refine F.iL f_ Zs iW
 ·obtain⟨tr,dt,e,b,es,bs,f,o,p,n,m,W,rfl,_⟩:=h;rfl
 ·obtain⟨tr,dt,e,b,es,bs,f1,o,p,n,m,W,rfl,TR,IT,UM,hn,hm,TP,q⟩:=h;refine⟨_,(Zf (Y3 (2) f_.nd (@rp _ _ _ _ _ _ _ _ _ _ _ _ _ _ iD (hr.mono (Zv)) hX.pass (Y2 (pv 0) (Y2 (pv 1) af)) (Zw) (Zv) (Zw) (Zw))) (Zf (@dI _ _ _ _ _ _ _ _ hX.own Zt (@uX _ _ _ _ _ _ _ _ (by exact rfl) T.gN (Y2 (Za cG (Y4 (aK K) T.d6 PyProof.Rows.Boot.«len» (Y2 (Y7 K (pv 0)) af)) aq) (Y2 (@qx _ _ _ _ _ _ kR aq) (Y2 (@qx _ _ _ _ _ _ kR aq) af))) (Zw) (Zw)) (Y6 (3) f_.nd (Or.inl rfl)) (Zg (@dI _ _ _ _ _ _ _ _ hX.own Zt (@uX _ _ _ _ _ _ _ _ (by exact rfl) T.gN (Y2 (Za cG (Y4 (aK K) T.d6 PyProof.Rows.Boot.«len» (Y2 (Y8 (aG K) (Y7 K (pv 0)) (pv 3)) af)) aq) (Y2 (@qx _ _ _ _ _ _ kR aq) (Y2 (@qx _ _ _ _ _ _ kR aq) af))) (Zw) (Zw)) (Y6 (4) f_.nd (Or.inl rfl)) (Zg (@bg _ _ _ _ (Zb (pv 2) eC (hr.mono (Zv)) aV (Y2 (pv 3) (Y2 (pv 4) af))) (Zw))) (by intro _;rfl))) (by intro _;rfl)) (Zg (@aQ _ _ _ _ (@Bt _ _ _ _ _ _ _ _ _ _ _ _ _ (Y7 K (pv 2)) gS (hr.mono (Zv)) aV (Zw)))))),?_⟩;refine⟨fun σ H1=>∃gx S,σ=[sR tr,sI W,sR gx,none,none]∧Base H H1 S∧g_ H1 au aD gx tr W S (fun _ _=>False,fun _=>none) 0 0,?_,?_⟩
  ·refine⟨_,rfl,_,rfl,fun y dy hy K3 dE=>⟨y,dy,tr,W,rfl,ae,fun H' S sb fr G=>⟨rfl,y,S,rfl,⟨SameBut.yU hy K3 sb,fun a ha=>?_⟩,G⟩⟩⟩;have:=fr a ha;cases e9:H a with
   |none=>rfl
   |some o9=>rw[ai (aA e9 hy),ai (aA e9 K3),e9]at this;cases this
  rintro σ H1 ⟨gx,S,rfl,BA,G⟩;have He:es.length=n:=TR.te.1;have V0:=Vd.start f1 o p W n m;refine⟨fun σ H2=>(∃u v,σ=[sR tr,sI W,sR gx,u,v])∧∃S s B M,Base H H2 S∧g_ H2 au aD gx tr W S s B M∧Vd f1 o p W (Vb n m 0 0) s∧B≤6000,?_,?_⟩
  ·have T1:=TR.keep BA.same;refine⟨_,rfl,tr,av,dt,_,_,rfl,T1.ob,Rc.cl,Rc.j8,g8 o p e b,e,_,rfl, .inl (.of T1.he),_,_,rfl,rfl,_,rfl,_,rfl,_,_,rfl,⟨by rw[List.length_map,He];lia,by rw[List.length_map,He];lia,Zv,Zv⟩,?_⟩;have en:((((es.map V.ref).length:Nat):Int)-1- -1).toNat=n:=by rw[List.length_map,He];lia
   rw[en];refine xH (fun k σ H2=>(∃u v,σ=[sR tr,sI W,sR gx,u,v])∧∃S s B M,Base H H2 S∧g_ H2 au aD gx tr W S s B M∧Vd f1 o p W (Vb n m (n-k) 0) s∧B≤2*(k*m)∧M≤3*(k*m)) ⟨⟨_,_,rfl⟩,S,_,0,0,BA,G,V0,by lia,by lia⟩ ?_ ?_
   ·rintro k σ H2 hk ⟨⟨u,v,rfl⟩,S2,s2,B,M,AW,G2,V2,hB,hM⟩;have ei:(((es.map V.ref).length:Nat):Int)-1-(k:Int)=((n-1-k:Nat):Int):=by rw[List.length_map,He];lia
    rw[ei];have T2:=TR.keep AW.same;obtain⟨rb,g1,g2,g3⟩:=T2.te.at (show n-1-k<n by lia);have V2:Vd f1 o p W (Vb n m (n-1-k) m) s2:=Vd.turn (by rw[show n-1-k+1=n-k by lia];exact V2);have YQ:(k+1)*m≤n*m:=Nat.mul_le_mul_right m Zq;have YR:(k+1)*m=k*m+m:=Nat.succ_mul k m;have lm:∀g:Nat→Option Int,(cR m g).length=m:=fun g=>by simp[cR]
    refine⟨_,rfl,tr,av,dt,_,_,rfl,T2.ob,Rc.cl,Rc.j8,g8 o p e b,_,rfl,e,_,_,_,rfl,rfl, .of T2.he,aF g2,rb,_,rfl, .inl (.of g3),_,_,rfl,rfl,_,rfl,_,rfl,_,_,rfl,⟨by rw[lm];lia,by rw[lm];lia,Zv,Zv⟩,?_⟩;have XE:((((cR m (cZ f1 o p (n-1-k))).length:Nat):Int)-1- -1).toNat=m:=by rw[lm];lia
    rw[XE];refine xH (fun l σ H3=>(∃v,σ=[sR tr,sI W,sR gx,sI (((n-1-k:Nat):Int)),v])∧∃S s B M,Base H H3 S∧g_ H3 au aD gx tr W S s B M∧Vd f1 o p W (Vb n m (n-1-k) (m-l)) s∧B≤2*(k*m+l)∧M≤3*(k*m+l)) ⟨⟨_,rfl⟩,S2,s2,B,M,AW,G2,V2,hB,hM⟩ ?_ ?_
    ·rintro l σ H3 hl ⟨⟨v3,rfl⟩,S3,s3,B3,M3,Hj,G3,V3,XF,XG⟩;have ej:(((cR m (cZ f1 o p (n-1-k))).length:Nat):Int)-1-(l:Int)=((m-1-l:Nat):Int):=by rw[lm];lia
     rw[ej];obtain⟨dx,g,dk,km,S1,D⟩:=id G3;have V3:Vd f1 o p W (Vb n m (n-1-k) (m-1-l+1)) s3:=by rw[show m-1-l+1=m-l by lia];exact V3
     refine⟨_,rfl,gx,dx,_,rfl,D.ob,EF tr W g dk,_,rfl,_,rfl,gx,tr,dt,e,b,es,bs,f1,o,p,n,m,W,n-1-k,m-1-l,S3,s3,B3,M3,H,rfl,G3,TR,Hj,by lia,by lia,hn,hm,TP,V3.ok,by lia,by lia,fun H4 S4 u4 G4=>?_⟩;refine⟨⟨_,rfl⟩,S4,_,_,_,Hj.ups u4,G4,?_,by lia,by lia⟩;have:=V3.next TP (show n-1-k<n by lia) (show m-1-l<m by lia);rw[show m-(l+1)=m-1-l by lia];exact this
    ·rintro σ H3 ⟨⟨v3,rfl⟩,S3,s3,B3,M3,Hj,G3,V3,XF,XG⟩;refine⟨⟨_,_,rfl⟩,S3,s3,B3,M3,Hj,G3,?_,by lia,by lia⟩;rw[show n-(k+1)=n-1-k by lia,show(0:Nat)=m-m by lia];exact V3
   ·rintro σ H2 ⟨⟨u,v,rfl⟩,S2,s2,B,M,AW,G2,V2,hB,hM⟩;rw[Nat.sub_self]at V2;exact⟨⟨_,_,rfl⟩,S2,s2,B,M,AW,G2,V2,by lia⟩
  rintro σ H2 ⟨⟨u,v,rfl⟩,S2,s2,B,M,AW,G2,V2,hB⟩;obtain⟨dx,g,dk,km,S1,D⟩:=id G2;obtain⟨dg,dl,dm,kl,GU,ld,mm,og,_⟩:=id D.gr;have HG:=fun a b=>V2.RN TP IT a b
  refine⟨_,rfl,gx,au,dx,_,_,rfl,D.ob,Hc.cl,Hc.groups,iH tr W g dk,g,dg,_,rfl,og,KH dl dm,g,S1,_,B,rfl,D.gr,by lia,fun H3 r us gs u3 qD vX W3 Lk TD=>?_⟩;have Hj:Base H H2 S1:=⟨AW.same,fun a h=>AW.free a ((D.sS a).mpr (.inl h))⟩
  exact q _ r us gs (Hj.ups u3).same (AW.same.free qD) vX W3 (fun k a h=>AW.same.free (Lk k a h)) (TD.iff HG)
theorem nr:aJ ["taken","shut","pair"] ["taken"] (ao lY):=iV
include T in
theorem ZZ{f:Addr}{fd:FuncData}(F:lO K "shut_by" "shut_by" lY f fd):bf P w K mg base (dD P w) true 1 f fd ["taken"] vJ:=by
 refine F.iL nr Zs iW
 ·obtain⟨v,shut,rfl,_⟩:=h;rfl
 ·obtain⟨v,shut,rfl,TV,hlen,q⟩:=h;have hu:=hr.units;have hu:(A.deeper (PyProof.Rows.envOfC "shut_by" (ao lY) s.heap.objs.size f gw)).units+1<cLine:=by lia
  refine⟨_,(Zn (Y3 (1) nr.nd kT) (Zf (Zm (Zk (@ve _ _ _ _ _ (pv 0))) (Zg (@dI _ _ _ _ _ _ _ _ hX.own Zt (@cj _ K _ _ _ (pv 0) (Zw)) (Y6 (2) nr.nd (Or.inl rfl)) (Zg (@lN _ _ _ _ _ _ _ _ _ hu (pv 1) (pv 2) eE Zt)) (by intro _;rfl))) aR) (Zg (@aQ _ _ _ _ (pv 1))))),?_⟩;refine fun d hd=>?_
  refine⟨fun σ H1=>(∃u,σ=[some v,sR d,u])∧ar H H1∧∃kvs,H1 d=some (.dT kvs)∧An kvs shut,?_,?_⟩
  ·refine⟨_,rfl,_,rfl,?_⟩;rcases TV with⟨rfl,rfl⟩|⟨l,us,rfl,hl,P1⟩
   ·refine bB (fun hh=>absurd hh Zr) (fun _=>?_);exact⟨⟨_,rfl⟩,ar.upd hd,[],ae,fun p=>by simp[xh]⟩
   ·refine bB (fun _=>?_) (fun hh=>absurd Zr hh);have K1:=P1.1;refine⟨_,rfl,l,rfl,⟨_, .of (ar.upd hd _ _ hl)⟩,?_⟩;refine eF (xs:=us) (fun i σ H'=>(∃u,σ=[sR l,sR d,u])∧ar H H'∧∃kvs,H' d=some (.dT kvs)∧kvs.length≤i∧An kvs (shut.take i)) ?_ ?_ ?_ ?_
    ·exact⟨⟨_,rfl⟩,ar.upd hd,[],ae,Nat.le_refl _,fun p=>by simp[xh]⟩
    ·rintro i σ H' _ ⟨_,s1,_⟩;exact .of (s1 _ _ hl)
    ·rintro i x σ H' hx ⟨⟨u,rfl⟩,s1,kvs,hD,hk,hS⟩;have hi:i<shut.length:=by rw[←K1];exact(Y' hx).1
     obtain⟨t,E3,yx⟩:=P1.Q_ hi;rw[hx]at E3;cases E3;refine⟨_,rfl,_,rfl,d,_,rfl, .t (k:=a8 (pr shut i)) hD (s1 _ _ yx) (bh Zq),⟨_,rfl⟩,s1.fA hd,_,ae,Nat.le_trans (fG _ _ _) (by lia),fun p=>?_⟩;have e1:shut.take (i+1)=shut.take i++[pr shut i]:=by rw[List.take_succ,HW hi];rfl
     rw[jE,e1];by_cases hp:p=pr shut i
     ·rw[Zi (by rw[hp])];simp[hp]
     ·rw[Ze (fun z=>hp ?_),hS p]
      ·simp[hp]
      ·simp only[a8,List.cons.injEq,Sum.inl.injEq,and_true]at z;exact Prod.ext z.1 z.2
    ·rintro σ H' ⟨⟨u,rfl⟩,s1,kvs,hD,_,hS⟩;rw[K1,List.take_length]at hS;exact⟨⟨_,rfl⟩,s1,kvs,hD,hS⟩
  rintro σ H1 ⟨⟨u,rfl⟩,s1,kvs,hD,hS⟩;exact⟨_,rfl,q H1 d kvs s1 hD hS⟩
variable(l0:cK P w K mg base true 1 "shut_by" ["taken"] vJ)
variable(dP:dX P w K mg base true 1 aU "pair_worth" ["self","x","y"] (vD aU))
theorem dw:aJ ["first","second","terms","taken","shut","worths","i","x","row"] ["first","second","terms","taken"] (ao fh):=iV
include T Tc l0 dP in
theorem sY{f:Addr}{fd:FuncData}(F:lO K "open_worths" "open_worths" fh f fd):bf P w K mg base (dD P w) true 2 f fd ["first","second","terms","taken"] (sM aU):=by
 refine F.iL dw Zs iW
 ·obtain⟨f,g,t,v,c,shut,rfl,_⟩:=h;rfl
 ·obtain⟨f1,g,t,v,c,shut,rfl,hf,hg,TF,TV,QM,Uc,Xp,q⟩:=h;have hu:=hr.units;have hu:(A.deeper (PyProof.Rows.envOfC "open_worths" (ao fh) s.heap.objs.size f gw)).units+1<cLine:=by lia
  have lx:(c.xs.map V.str).length=c.xs.length:=List.length_map ..;have ly:(c.ys.map V.str).length=c.ys.length:=List.length_map ..;refine⟨_,(Zf (@aH _ _ (4) _ _ _ _ dw.nd Zt (Or.inr rfl) (Y5 l0 aV (Y2 (pv 3) af)) (Zw) (by exact .inl rfl)) (Zf (Y3 (5) dw.nd (@bS _ _ _ _ af)) (Zf (@dI _ _ _ _ _ _ _ _ hX.own Zt (@nX _ K _ _ _ _ _ _ _ (by exact rfl) T.i9 (Y2 (pv 0) af) (Zw) (Zw)) (@i8 _ K _ _ _ (2) _ (by exact rfl) (@cc _ _ _ _ _ (Y6 (6) dw.nd (Or.inr rfl)) (@cc _ _ _ _ _ (Y6 (7) dw.nd (Or.inr rfl)) i6 (Zw)) (Zw)) (Zw) (Zw) (Zw)) (Zf (@rm _ _ _ _ _ _ _ _ _ _ _ _ _ _ _ (8) _ _ (by exact rfl) dw.nd Zt (by exact rfl) (show ba ["first","second","terms","taken","shut","worths","i","x","row"] (ao fh) _ ["j","y"] [6,4,2,7] ["i","shut","terms","x"]from AS) (@nX _ K _ _ _ _ _ _ _ (by exact rfl) T.i9 (Y2 (pv 1) af) (Zw) (Zw)) (fun _ _ _ _ _=>(@i8 _ K _ _ _ (2) _ (by exact rfl) (@cc _ _ _ _ _ (Y6 (0) (show(["j","y","i","shut","terms","x"]:List Str).Nodup by decide+kernel) (Or.inl rfl)) (@cc _ _ _ _ _ (Y6 (1) (show(["j","y","i","shut","terms","x"]:List Str).Nodup by decide+kernel) (Or.inl rfl)) i6 (Zw)) (Zw)) (Zw) (Zw) (Zw))) (fun _ _ _ _ _=>fq) (fun _ _ _ _ _=>(@kO _ _ _ _ _ _ _ _ (Zk (@rP _ _ _ _ _ hu (@e_ _ _ _ _ _ (Y2 (pv 2) (Y2 (pv 0) af))) (pv 3))) jY (Zb (pv 4) dP (hr.mono (Zv)) aV (Y2 (pv 5) (Y2 (pv 1) af))))) (Zw) (by intro _;rfl)) (Zg (@bg _ _ _ _ (Zc K PySem.F.plainAttrs_list PySem.F.slot_list_append PySem.F.type_list_append dh (pv 5) (Y2 (pv 8) af)) (Zw)))) (by intro _;rfl)) (Zg (@aQ _ _ _ _ (pv 5)))))),?_⟩;refine⟨fun σ H1=>∃d kvs,σ=[sR f1,sR g,sR t,some v,sR d,none,none,none,none]∧ar H H1∧H1 d=some (.dT kvs)∧An kvs shut,?_,?_⟩
  ·exact⟨_,rfl,v,shut,rfl,TV,QM,fun H1 d kvs s1 hd hS=>⟨d,kvs,rfl,s1,hd,hS⟩⟩
  rintro σ H1 ⟨d,kvs,rfl,s1,XH,hS⟩;refine⟨fun σ H2=>∃e,σ=[sR f1,sR g,sR t,some v,sR d,sR e,none,none,none]∧ar H1 H2∧H1 e=none∧H2 e=some (.lst []),?_,?_⟩
  ·exact⟨ax Zr,fun e he=>⟨e,rfl,ar.upd he,he,ae⟩⟩
  rintro σ H2 ⟨e,rfl,s2,Iv,LH⟩;refine⟨fun σ H3=>(∃u1 u2 u3,σ=[sR f1,sR g,sR t,some v,sR d,sR e,u1,u2,u3])∧ar H1 H3∧∃as:List Addr,H3 e=some (.lst (as.map V.ref))∧iN H3 as (mf c shut) c.xs.length c.ys.length∧(∀a∈as,H1 a=none∧a≠e)∧as.Nodup,?_,?_⟩
  ·refine⟨_,rfl,f1,rfl,⟨_, .of (s2 _ _ (s1 _ _ hf))⟩,?_⟩;refine xq (xs:=c.xs.map V.str) (fun i σ H'=>(∃u1 u2 u3,σ=[sR f1,sR g,sR t,some v,sR d,sR e,u1,u2,u3])∧ar H1 H'∧∃as:List Addr,H' e=some (.lst (as.map V.ref))∧iN H' as (mf c shut) i c.ys.length∧(∀a∈as,H1 a=none∧a≠e)∧as.Nodup) ?_ ?_ ?_ ?_
   ·exact⟨⟨_,_,_,rfl⟩,s2,[],LH,⟨rfl,fun i a h=>by simp at h⟩,(fun a h=>by cases h), .nil⟩
   ·rintro i σ H' _ ⟨_,s3,_⟩;exact .of (s3 _ _ (s1 _ _ hf))
   ·rintro i x T' σ H' hx ⟨⟨u1,u2,u3,rfl⟩,s3,as,Fs,TA,hn,Fp⟩ hT;obtain⟨wx,UN,rfl⟩:=Ah hx;have hi:i<c.xs.length:=(Y' UN).1;have s4:ar H1 (upd H' T' (.tup [.int i, .str wx])):=s3.trans (ar.upd hT);have PQ:=ar.upd (o:= .tup [.int i, .str wx]) hT _ _ Fs;have PR:=TA.same (ar.upd (o:= .tup [.int i, .str wx]) hT);refine⟨T',_,rfl, .of ae,rfl,_,_,rfl,_,_,rfl,rfl,?_⟩;generalize upd H' T' (.tup [.int i, .str wx])=H4 at s4 PQ PR;clear TA Fs s3 hT;refine⟨fun σ H5=>∃r,σ=[sR f1,sR g,sR t,some v,sR d,sR e,sI i,sS wx,sR r]∧ar H4 H5∧H4 r=none∧H5 r=some (.lst (cR c.ys.length (mf c shut i))),?_,?_⟩
    ·have UO:=s4 _ _ (s1 _ _ hg);refine⟨_,rfl,g,rfl,⟨_, .of UO⟩,fun D hD=>?_⟩;refine uS (xs:=c.ys.map V.str) (fun j ys a7 H5=>(∃w1 w2,a7=[w1,w2,sI i,sR d,sR t,sS wx])∧ys=cR j (mf c shut i)∧H5 D=some (.lst ys)∧ar H4 H5) ⟨⟨_,_,rfl⟩,rfl,ae,ar.upd hD⟩ ?_ ?_ ?_
     ·rintro j ys a7 H5 _ ⟨_,_,_,s5⟩;exact .of (s5 _ _ UO)
     ·rintro j y T2 ys a7 H5 hy ⟨⟨w1,w2,rfl⟩,rfl,Hk,s5⟩ N5;obtain⟨wy,Ft,rfl⟩:=Ah hy;have hj:j<c.ys.length:=(Y' Ft).1;have s6:ar H4 (upd H5 T2 (.tup [.int j, .str wy])):=s5.trans (ar.upd N5);have Oi:=ar.upd (o:= .tup [.int j, .str wy]) N5 _ _ Hk;refine⟨T2,_,rfl, .of ae,rfl,_,_,rfl,_,_,rfl,rfl,?_⟩;generalize upd H5 T2 (.tup [.int j, .str wy])=H6 at s6 Oi;refine rn ?_;refine⟨_,rfl,_,rfl,ax Zr,fun p hp=>?_⟩;have s7:=s6.trans (ar.upd (o:= .tup [.int (i:Int), .int (j:Int)]) hp);have sA:=s4.trans s7;have UP:=ar.upd (o:= .tup [.int (i:Int), .int (j:Int)]) hp _ _ Oi;have len:(cR j (mf c shut i)).length<sizeLine:=bh (by rw[cS];lia);have sn:∀u,u=mf c shut i j→cR j (mf c shut i)++[bJ u]=cR (j+1) (mf c shut i):=fun u e=>by rw[pM,e]
      have XI:c.pw ((i:Int),(j:Int))=jJ c.same c.fs wx wy:=Case.pw_of (by rw[DD];exact UN) (by rw[DD];exact Ft);refine⟨_,rfl,d,_,rfl, .t (k:=a8 ((i:Int),(j:Int))) (sA _ _ XH) ae,_,rfl,?_⟩;rw[hS];refine bB (fun h1=>?_) (fun h1=>?_)
      ·have h1:((i:Int),(j:Int))∈shut:=by simpa using h1
       refine⟨UP,len,⟨_,_,rfl⟩,?_,ae,s7.fA hD⟩;exact sn none (by simp[mf,JZ,h1])
      ·have h1:((i:Int),(j:Int))∉shut:=by simpa using h1
       obtain⟨n,dx,l,dd,vs,T1,e1,e2,e3,e4⟩:=(TF.keep s1).keep sA;refine⟨_,rfl,t,dx,_,rfl,T1.ob,vC n l dd,_,rfl,_,rfl,t,wx,wy,n,c.fs,dx,l,dd,vs,rfl,T1,fun H8 s8=>?_⟩;refine⟨s8 _ _ UP,len,⟨_,_,rfl⟩,?_,ae,(s7.trans s8).fA hD⟩;exact sn _ (by simp[mf,JZ,h1,XI,e1])
     ·rintro ys a7 H5 ⟨_,rfl,Hk,s5⟩;rw[ly]at Hk;exact⟨D,rfl,s5,hD,Hk⟩
    rintro σ H5 ⟨r,rfl,s5,qD,Sn⟩;have UQ:r≠e:=Ne.symm (aA PQ qD);have hlen:=PR.len;refine⟨_,rfl, .inl ⟨rfl,_, .of (s5 _ _ PQ)⟩,_,rfl,e,_,_,rfl,rfl,s5 _ _ PQ,bh (by rw[List.length_map];lia),⟨_,_,_,rfl⟩,(s4.trans s5).fA Iv,as++[r],by rw[ae];simp,⟨by simp[hlen],fun k a hk=>?_⟩,fun a ha=>?_,List.nodup_append.mpr ⟨Fp,Zx,fun x hx y hy e9=>?_⟩⟩
    ·by_cases h:k<i
     ·rw[List.getElem?_append_left Zq]at hk;rw[ai (hn a (Zd hk)).2];exact s5 _ _ (PR.row k a hk)
     ·rw[List.getElem?_append_right Zq]at hk;have yr:k-as.length=0:=by
       have:=(Y' hk).1;simp at this
       lia
      rw[yr]at hk;have:r=a:=by simpa using hk
      subst this;rw[ai UQ];have:k=i:=by lia
      rw[this];exact Sn
    ·rcases List.mem_append.mp ha with ha|ha
     ·exact hn a ha
     ·have:a=r:=by simpa using ha
      rw[this];exact⟨s4.free qD,UQ⟩
    ·have hy:y=r:=by simpa using hy
     obtain⟨k,hk,ek⟩:=List.mem_iff_getElem.mp hx;have:=PR.row k x (by rw[List.getElem?_eq_getElem hk,ek]);rw[e9,hy,qD]at this;cases this
   ·rintro σ H' ⟨⟨u1,u2,u3,rfl⟩,s3,as,Fs,TA,hn,Fp⟩;rw[lx]at TA;exact⟨⟨_,_,_,rfl⟩,s3,as,Fs,TA,hn,Fp⟩
  rintro σ H3 ⟨⟨u1,u2,u3,rfl⟩,s3,as,Fs,TA,hn,Fp⟩;exact⟨_,rfl,q H3 e as (s1.trans s3) Fs (s1.free Iv) TA Fp (fun z=>(hn e z).2 rfl) fun a ha=>s1.free (hn a ha).1⟩
variable(l5:mD P w K mg base true 4 "Trails" av ["self","worths","terms"] [] (pV av aU))
variable(gT:cK P w K mg base true 5 "best_groups" ["trails","worth"] (ZH av))
variable(f':cK P w K mg base true 6 "make_finding" ["trails","worth","pairs"] (ZG av ay))
theorem jA:aJ ["worths","terms","trails","worth"] ["worths","terms"] (ao fY):=iV
include T Tc eQ Rc l5 gT f' in
theorem t9{f:Addr}{fd:FuncData}(F:lO K "make_round" "make_round" fY f fd):bf P w K mg base (dD P w) true 7 f fd ["worths","terms"] (oh aU ay):=by
 refine F.iL jA Zs iW
 ·obtain⟨w,t,as,c,f,n,m,rfl,_⟩:=h;rfl
 ·obtain⟨w,t,as,c,f1,n,m,rfl,hw,TA,TF,IT,UM,hn,hm,q0,q1⟩:=h;refine⟨_,(Zf (@aH _ _ (2) _ _ _ _ jA.nd Zt (Or.inr rfl) (@rp _ _ _ _ _ _ _ _ _ _ _ _ _ _ l5 (hr.mono (Zv)) hX.pass (Y2 (pv 0) (Y2 (pv 1) af)) (Zw) (Zv) (Zw) (Zw)) (Zw) (by exact .inl rfl)) (Zf (@aH _ _ (3) _ _ _ _ jA.nd Zt (Or.inr rfl) (Y5 eQ aV (Y2 (@gM _ _ _ _ _ _ _ _ _ _ _ _ _ _ (by exact rfl) (show ba ["worths","terms","trails","worth"] (ao fY) _ ["row"] [] []from AS) (@cj _ K _ _ _ (Y7 K (pv 2)) (Zw)) (fun _ _ _ _ _=>(Y6 (0) (show(["row"]:List Str).Nodup by decide+kernel) (Or.inl rfl))) (fun _ _ _ _ _=>fq) (fun _ _ _ _ _=>(Y5 eQ aV (Y2 (pv 0) af))) (by intro _;rfl)) af)) (Zw) (by exact .inl rfl)) (Zf (Zm (@PW.pt _ _ _ (@pw_or _ _ _ _ _ _ _ (Zk (@pB _ _ _ _ _ (pv 3))) (@pw_or1 _ _ _ _ (@aZ _ _ _ _ _ _ _ _ xb (pv 3) (Y7 K (pv 1)) (aY _))))) (Zg (@aQ _ _ _ _ (@bS _ _ _ _ af))) aR) (Zg (@aQ _ _ _ _ (@gM _ _ _ _ _ _ _ _ _ _ _ _ _ _ (by exact rfl) (show ba ["worths","terms","trails","worth"] (ao fY) _ ["pairs"] [2,3] ["trails","worth"]from AS) (@cj _ K _ _ _ (Y5 gT aV (Y2 (pv 2) (Y2 (pv 3) af))) (Zw)) (fun _ _ _ _ _=>(Y6 (0) (show(["pairs","trails","worth"]:List Str).Nodup by decide+kernel) (Or.inl rfl))) (fun _ _ _ _ _=>fq) (fun _ _ _ _ _=>(Y5 f' aV (Y2 (pv 1) (Y2 (pv 2) (Y2 (pv 0) af))))) (by intro _;rfl))))))),?_⟩;refine⟨fun σ H1=>∃x dx e b es,σ=[sR w,sR t,sR x,none]∧ar H H1∧H1 x=some (.ins av dx (gz c.out c.into e b))∧H1 e=some (.lst (es.map V.ref))∧iN H1 es (cZ f1 c.out c.into) n m∧(0<n→∃bs,pU H1 av x dx e b es bs f1 c.out c.into n m),?_,?_⟩
  ·refine⟨_,rfl,_,rfl,fun x dx hx Fh dE=>?_⟩;have s5:ar H (upd (upd H dx (.own x)) x (.ins av dx [])):=(ar.upd Fh).fA hx;refine⟨x,dx,w,t,c,as,f1,n,m,rfl,ae,by rw[ai dE];exact ae,s5 _ _ hw,TA.same s5,TF.keep s5,hn,hm,fun H6 e b sb PU Te Tb=>?_⟩;obtain⟨es,he,_,TE,_⟩:=Te;refine⟨rfl,x,dx,e,b,es,rfl,SameBut.yU hx Fh sb,PU,he,TE,fun h=>?_⟩;obtain⟨bs,hb,_,XJ,_⟩:=Tb h;exact⟨bs,PU,he,TE,hb,XJ⟩
  rintro σ H1 ⟨x,dx,e,b,es,rfl,s1,kW,Z',TE,XM⟩;have He:es.length=n:=TE.len;refine⟨fun σ H2=>σ=[sR w,sR t,sR x,some (bJ (GW f1 c.out c.into n m))]∧ar H1 H2,?_,?_⟩
  ·refine⟨_,rfl,x,av,dx,_,_,rfl,kW,Rc.cl,Rc.j8,g8 c.out c.into e b,e,rfl,⟨_, .of Z'⟩,fun D hD=>?_⟩;refine iF (xs:=es.map V.ref) (fun k ys a7 H'=>(∃u,a7=[u])∧ys=((List.range k).map fun i=>bJ (nY ((List.range m).map (cZ f1 c.out c.into i))))∧H' D=some (.lst ys)∧ar H1 H') ⟨⟨_,rfl⟩,rfl,ae,ar.upd hD⟩ ?_ ?_ ?_
   ·rintro k ys a7 H' _ ⟨_,_,_,s2⟩;exact .of (s2 _ _ Z')
   ·rintro k v ys a7 H' hv ⟨⟨u,rfl⟩,rfl,u0,s2⟩;have hk:k<n:=by rw[←He];have:=(Y' hv).1;simpa using this
    obtain⟨rb,g1,g2,g3⟩:=TE.at hk;rw[hv]at g2;cases g2;refine kY ?_;refine⟨_,rfl,rb,(List.range m).map (cZ f1 c.out c.into k),rfl,?_,by simpa using hm,fun LD s3=>?_⟩
    ·rw[s2 _ _ g3,List.map_map];rfl
    ·refine⟨s3 _ _ u0,bh (by simp;lia),⟨_,rfl⟩,?_,ae,(s2.trans s3).fA hD⟩;rw[List.range_succ,List.map_append];rfl
   ·rintro ys a7 H' ⟨_,rfl,u0,s2⟩;rw[List.length_map,He]at u0;refine⟨D,(List.range n).map fun i=>nY ((List.range m).map (cZ f1 c.out c.into i)),rfl,by rw[u0,List.map_map];rfl,by simpa using hn,fun LD s3=>⟨rfl,s2.trans s3⟩⟩
  rintro σ H2 ⟨rfl,s2⟩;have IG:=s1.trans s2;obtain⟨nu,dt,l,d,vs,TM,z1,z2,z3,z4⟩:=TF.keep IG;have MX:=EI IT c.out c.into;refine⟨fun σ H3=>∃W,GW f1 c.out c.into n m=some W∧c.least≤W∧σ=[sR w,sR t,sR x,sI W]∧H3=H2,?_,?_⟩
  ·refine⟨_,rfl,_,rfl,?_⟩;cases eT:GW f1 c.out c.into n m with
   |none=>
    rw[eT]at MX;refine jH ?_;refine jH ?_;exact⟨ax Zr,fun r qD=>q0 (fun ps hp=>absurd ⟨ps,hp,rfl⟩ (MX _)) _ r (IG.trans (ar.upd qD)) (IG.free qD) ae⟩
   |some W=>
    rw[eT]at MX;refine bB (fun hh=>absurd hh (by simp[bJ])) (fun _=>?_);refine⟨_,rfl,_,rfl,t,aU,dt,_,_,rfl,TM.ob,Tc.cl,Tc.least,Gj nu l d,_,_,rfl,rfl,_,rfl,?_⟩;refine bB (fun hh=>?_) (fun hh=>?_)
    ·have hh:W<nu.least:=by simpa using hh
     rw[z4]at hh;exact⟨ax Zr,fun r qD=>q0 (fun ps hp=>by have:=MX.2 _ ⟨ps,hp,rfl⟩;lia) _ r (IG.trans (ar.upd qD)) (IG.free qD) ae⟩
    ·have hh:¬W<nu.least:=by simpa using hh
     rw[z4]at hh;exact⟨W,rfl,by lia,rfl,rfl⟩
  rintro σ H2 ⟨W,eT,hle,rfl,rfl⟩;rw[eT]at MX;obtain⟨UR,w0,US⟩:=MX.1;have TP:d7 f1 c.out c.into W:=fun ps hp=>MX.2 _ ⟨ps,hp,rfl⟩
  have R5:0<n:=by
   obtain⟨i,j,_,hi,_⟩:=jw IT w0 (cU w0.ne)
   lia
  obtain⟨bs,TR⟩:=XM R5;have UT:=TR.keep s2;refine⟨_,rfl,_,rfl,x,dx,e,b,es,bs,f1,c.out,c.into,n,m,W,rfl,UT,IT,UM,hn,hm,TP,fun H3 r us gs s3 qD vX W3 Lk TD=>?_⟩;have Hl:∀g∈gs,∀a∈g,∃i j:Nat,a=aO (i,j)∧i<n∧j<m:=fun g hg a ha=>by
   obtain⟨ps,wp,hm⟩:=(TD.mem hg ha).on;exact jw IT wp.1 hm
  have pG:∀g∈gs,g.length≤n*m:=fun g hg=>by
   have:=len_sub g (EJ n m) ((TD.tQ g hg).imp fun{a b} h e=>by
    rw[e]at h;unfold h_ at h;simp at h) fun a ha=>by
    obtain⟨i,j,rfl,hi,hj⟩:=Hl g hg a ha;exact xQ hi hj
   rw[xP]at this;exact this
  have F2:=TD.Bk Hl;have So:gs≠[]:=fun z=>by
   obtain⟨i,j,h1,_⟩:=jw IT w0 (cU w0.ne);obtain⟨g,hg,_⟩:=TD.all _ (fU.way UR ⟨w0,US.symm⟩ (cU w0.ne) (cU w0.ne));rw[z]at hg;cases hg
  have hW:=W3.1;refine⟨r,rfl,⟨_, .of vX⟩,fun D hD=>?_⟩;refine iF (xs:=us) (fun k ys a7 H'=>(∃u,a7=[u,sR x,sI W])∧H' D=some (.lst ys)∧ar H3 H'∧∃ds,cA (fun b=>H2 b=none∧b≠D) H' ay ys ds∧ds.map Fd.pairs=gs.take k∧∀d∈ds,NL f1 c.out c.into W d) ⟨⟨_,rfl⟩,ae,ar.upd hD,[], .nil,rfl,fun d h=>(by cases h)⟩ ?_ ?_ ?_
  ·rintro k ys a7 H' _ ⟨_,_,s4,_⟩;exact .of (s4 _ _ vX)
  ·rintro k v ys a7 H' hv ⟨⟨u,rfl⟩,E6,s4,ds,F4,Oj,bH⟩;have hk:k<gs.length:=by rw[←hW];exact(Y' hv).1
   have ek:gs[k]?=some gs[k]:=by simp[hk]
   have iO:gs[k]∈gs:=List.getElem_mem hk;generalize gs[k]=g at ek iO;obtain⟨pa,UU,k1,k2,k3⟩:=W3.2 k g ek;rw[hv]at k1;cases k1;have Sq:=Lk k pa hv;have Ol:pa≠D:=fun z=>by rw[z,hD]at k2;cases k2
   obtain⟨gn,F'⟩:∃gn:List (Nat×Nat),g=gn.map aO:=by
    refine⟨g.map fun a=>(a.1.toNat,a.2.toNat),?_⟩;rw[List.map_map]
    conv=>lhs;rw[←List.map_id g]
    apply List.map_congr_left;intro a ha;obtain⟨i,j,rfl,_⟩:=Hl g iO a ha;simp[aO]
   obtain⟨i0,j0,z5,z6,z7,z8⟩:∃i j:Nat,cZ f1 c.out c.into i j=some W∧i<n∧j<m∧aO (i,j)∈g:=by
    obtain⟨a,ha⟩:=List.exists_mem_of_ne_nil _ (TD.ne g iO);obtain⟨i,j,h1,h2,h3,h4⟩:=BQ TP IT (TD.mem iO ha);exact⟨i,j,h1,h2,h3,(TD.cls g iO a ha _).mpr h4⟩
   have Sr:gn.filter (fun q=>decide (cZ f1 c.out c.into q.1 q.2=some W))≠[]:=fun z=>by
    rw[F']at z8;obtain⟨q9,XN,e9⟩:=List.mem_map.mp z8;obtain⟨XO,XQ⟩:=iA (a:=q9.1) (b:=q9.2) e9;have:q9∈gn.filter (fun q=>decide (cZ f1 c.out c.into q.1 q.2=some W)):=List.mem_filter.mpr ⟨XN,by rw[XO,XQ];simpa using z5⟩;rw[z]at this;cases this
   obtain⟨sZ,K2⟩:∃q0,(gn.filter fun q=>decide (cZ f1 c.out c.into q.1 q.2=some W))[0]?=some q0:=by
    cases e9:gn.filter (fun q=>decide (cZ f1 c.out c.into q.1 q.2=some W))with
    |nil=>exact absurd e9 Sr
    |cons a r=>exact⟨a,rfl⟩
   have Om:=List.mem_filter.mp (Zd K2);have Ss:cZ f1 c.out c.into sZ.1 sZ.2=some W:=by simpa using Om.2
   have XR:=UT.keep (s3.trans s4);refine kY ?_;refine⟨_,rfl,_,rfl,_,rfl,x,dx,e,b,es,bs,f1,c.out,c.into,n,m,W,pa,UU,gn,sZ,rfl,XR,s4 _ _ k2,by rw[←F'];exact k3.same s4,fun q hq=>?_,K2,hn,?_,fun H5 y dy wy rw iP s5 hy K3 Ft Su XS XT Sx P5 Sn=>?_⟩
   ·have:aO q∈g:=by rw[F'];exact List.mem_map.mpr ⟨q,hq,rfl⟩
    obtain⟨i,j,h1,h2,h3⟩:=Hl g iO _ this;obtain⟨h4,h5⟩:=iA (a:=q.1) (b:=q.2) h1
    lia
   ·have:=pG g iO;rw[F',List.length_map]at this
    lia
   ·obtain⟨v1,v2,v3,v4⟩:=GV f1 c.out c.into sZ.1 sZ.1 sZ.2 W (Nat.le_refl _) Ss;have YS:=F4.1;have XU:ds.length=k:=by
     have:=congrArg List.length Oj;rw[List.length_map,List.length_take]at this
     lia
    have nD:∀{z},H' z=none→z≠D:=fun h z=>by rw[z,E6]at h;cases h
    have Sy:ar H2 H':=s3.trans s4;refine⟨s5 _ _ E6,bh Zq,⟨_,rfl⟩,ae,(s4.trans s5).fA hD,ds++[⟨W,(dY f1 c.out c.into sZ.1 sZ.1 sZ.2).map aO,xO (lf f1) c.out c.into ((dY f1 c.out c.into sZ.1 sZ.1 sZ.2).map aO),g⟩],?_,?_,fun d hd=>?_⟩
    ·refine cA.append (F4.keep (fun b o hb e=>by rw[ai hb.2];exact s5 _ _ e) (fun a v e=>by rw[ai (fun z=>by rw[z,E6]at e;cases e)];exact s5 _ _ e) fun _ h=>h) ⟨rfl,fun k9 d9 e9=>?_⟩;have XW:k9=0:=by
      have:=(Y' e9).1;simp at this
      lia
     subst XW;have e9:=(Zp e9).symm;subst e9;have T5:dR H5 (upd H5 D (.lst (ys++[.ref y]))):=dR.lst (s5 _ _ E6);refine⟨y,dy,wy,rw,pa,iP,UU,rfl,⟨by rw[ai (nD hy)];exact XS,by rw[ai (nD Ft)];exact Sx,P5.cw T5,?_,by rw[ai Ol];exact s5 _ _ (s4 _ _ k2),((k3.same s4).same s5).cw T5,⟨Sy.free hy,nD hy⟩,⟨Sy.free Ft,nD Ft⟩,⟨Sy.free Su,nD Su⟩,⟨Sq,Ol⟩⟩⟩;rw[ai (nD Su),Sn]
     congr 2
     have:=congrArg (List.map bJ) v4;rw[List.map_map,List.map_map]at this;exact this
    ·rw[List.map_append,Oj,List.take_succ,ek];rfl
    ·rcases List.mem_append.mp hd with hd|hd
     ·exact bH d hd
     ·have:d=⟨W,(dY f1 c.out c.into sZ.1 sZ.1 sZ.2).map aO,xO (lf f1) c.out c.into ((dY f1 c.out c.into sZ.1 sZ.1 sZ.2).map aO),g⟩:=by simpa using hd
      subst this;refine⟨rfl,⟨v1,v3⟩,rfl,fun q hq=>?_⟩;have Og:aO sZ∈g:=by rw[F'];exact List.mem_map.mpr ⟨_,Om.1,rfl⟩
      have v2:lstP ((dY f1 c.out c.into sZ.1 sZ.1 sZ.2).map aO)=aO sZ:=v2;exact(TD.cls g iO _ Og q).mpr (.way _ ⟨v1,v3⟩ (by rw[←v2];exact cU v1.ne) hq)
  ·rintro ys a7 H' ⟨_,E6,s4,ds,F4,Oj,bH⟩;rw[hW,List.take_length]at Oj;have sA:=IG.trans (s3.trans s4);exact q1 W gs ds ⟨TP,⟨UR,w0,US.symm⟩,hle,TD,Oj,bH⟩ So _ D ys sA ((IG.trans s3).free hD) E6 (F4.keep (fun _ _ _ h=>h) (fun _ _ h=>h) fun b hb=>IG.free hb.1)
theorem gU:aJ ["worths","findings","finding","i","j"] ["worths","findings"] (ao ke):=iV
include T Fc in
theorem t_{f:Addr}{fd:FuncData}(F:lO K "shut_pairs" "shut_pairs" ke f fd):bf P w K mg base (dD P w) true 1 f fd ["worths","findings"] (sN ay):=by
 refine F.iL gU Zs iW
 ·obtain⟨w,md,as,us,ds,f,n,m,rfl,_⟩:=h;rfl
 ·obtain⟨w,md,as,us,ds,f1,n,m,rfl,hw,Nx,nw,TA,UW,XX,FL,pz,q⟩:=h;refine⟨_,(Zg (@dI _ _ _ _ _ _ _ _ hX.own Zt (@cj _ K _ _ _ (pv 1) (Zw)) (Y6 (2) gU.nd (Or.inl rfl)) (Zg (@dI _ _ _ _ _ _ _ _ hX.own Zt (@cj _ K _ _ _ (Y7 K (pv 2)) (Zw)) (@i8 _ K _ _ _ (2) _ (by exact rfl) (@cc _ _ _ _ _ (Y6 (3) gU.nd (Or.inl rfl)) (@cc _ _ _ _ _ (Y6 (4) gU.nd (Or.inl rfl)) i6 (Zw)) (Zw)) (Zw) (Zw) (Zw)) (Zg (@Jk _ _ _ _ _ _ jY (@Ji _ _ _ _ _ _ _ (Y8 (aG K) (pv 0) (pv 3)) (pv 4) set_list (by intro _;rfl)) (Zw) (Zw) (Zw))) (by intro _;rfl))) (by intro _;rfl))),?_⟩;have rows:∀a∈as,∃xs,H a=some (.lst xs):=fun a ha=>by
   obtain⟨k,hk,ek⟩:=List.mem_iff_getElem.mp ha;exact⟨_,TA.row k a (by rw[List.getElem?_eq_getElem hk,ek])⟩
  have cw:∀H',(∀b o,b∉as→H b=some o→H' b=some o)→dR H H':=fun H' k t v e=>k t _ (fun z=>by
   obtain⟨xs,h⟩:=rows t z;rw[e]at h;cases h) e
  have hlen:=FL.1;refine⟨_,rfl,md,rfl,⟨_, .of UW⟩,?_⟩;refine eF (xs:=us) (fun k σ H1=>(∃u1 u2 u3,σ=[sR w,sR md,u1,u2,u3])∧(∀b o,b∉as→H b=some o→H1 b=some o)∧iN H1 as (jN f1 ((ds.take k).map Fd.pairs).flatten) n m) ⟨⟨_,_,_,rfl⟩,fun _ _ _ h=>h,TA⟩ ?_ ?_ ?_
  ·rintro k σ H1 _ ⟨_,k1,_⟩;exact .of (k1 _ _ XX UW)
  ·rintro k v σ H1 hv ⟨⟨u1,u2,u3,rfl⟩,k1,T1⟩;have hk:k<ds.length:=by rw[←hlen];exact(Y' hv).1
   have ek:ds[k]?=some ds[k]:=by simp[hk]
   have iO:ds[k]∈ds:=List.getElem_mem hk;generalize ds[k]=d at ek iO;obtain⟨a,dy,wy,i7,pr,kL,iP,e1,F⟩:=FL.2 k d ek;rw[hv]at e1;cases e1;have Lo:=F.pp.1;have et:((ds.take (k+1)).map Fd.pairs).flatten=((ds.take k).map Fd.pairs).flatten++d.pairs:=by
    rw[List.take_succ,ek,List.map_append,List.flatten_append];simp
   refine⟨_,rfl,a,ay,dy,_,_,rfl,k1 _ _ F.fa F.ob,Fc.cl,Fc.pairs,jM d.worth wy i7 pr,pr,rfl,⟨_, .of (k1 _ _ F.fp F.hp)⟩,?_⟩;refine eF (xs:=iP) (fun l σ H2=>(∃u2 u3,σ=[sR w,sR md,sR a,u2,u3])∧(∀b o,b∉as→H b=some o→H2 b=some o)∧iN H2 as (jN f1 (((ds.take k).map Fd.pairs).flatten++d.pairs.take l)) n m) ⟨⟨_,_,rfl⟩,k1,by simpa using T1⟩ ?_ ?_ ?_
   ·rintro l σ H2 _ ⟨_,k2,_⟩;exact .of (k2 _ _ F.fp F.hp)
   ·rintro l v σ H2 UX ⟨⟨v2,v3,rfl⟩,k2,T2⟩;have hl:l<d.pairs.length:=by rw[←Lo];exact(Y' UX).1
    have el:d.pairs[l]?=some d.pairs[l]:=by simp[hl]
    have hq:=pz d iO d.pairs[l] (List.getElem_mem hl);generalize d.pairs[l]=g at el hq;obtain⟨i,j,rfl,hi,hj⟩:=hq;obtain⟨t,g1,g2⟩:=F.pp.2 l _ el;rw[UX]at g1;cases g1;have kt:=cw H2 k2 _ _ g2;refine⟨t,_,rfl, .of kt,rfl,_,_,rfl,_,_,rfl,rfl,?_⟩;obtain⟨ra,r1,r2,r3⟩:=T2.at hi;have Pk:ra∈as:=Zd r1;refine⟨_,rfl,_,rfl,w,_,_,_,rfl,rfl, .of (k2 _ _ nw hw),aF r2,_,rfl,ra,_,_,j,rfl,rfl,r3,Gm (by rw[cS];exact hj),⟨_,_,rfl⟩,fun b o hb e=>?_,⟨T2.len,fun x b hb=>?_⟩⟩
    ·rw[ai (fun z=>hb (by rw[z];exact Pk))];exact k2 b o hb e
    ·have UY:d.pairs.take (l+1)=d.pairs.take l++[aO (i,j)]:=by rw[List.take_succ,el];rfl
     by_cases e:b=ra
     ·have ex:x=i:=by
       obtain⟨h1,e1⟩:=Y' hb;obtain⟨h2,e2⟩:=Y' r1;exact(List.getElem_inj Nx).mp (by rw[e1,e2,e])
      subst ex e;rw[ae];show some (HO.lst ((cR m _).set j (bJ none)))=_;rw[DH]
      congr 2
      unfold cR;apply List.map_congr_left;intro y _;unfold jN;rw[UY,←List.append_assoc]
      congr 1
      dsimp only;by_cases ey:y=j
      ·subst ey;rw[if_pos rfl,if_pos Zr]
      ·rw[Ze ey];have:¬aO (x,y)=aO (x,j):=fun z=>ey (iA z).2
       simp[this]
     ·rw[ai e,T2.row x b hb]
      congr 2
      unfold cR;apply List.map_congr_left;intro y _;unfold jN;rw[UY,←List.append_assoc];have:¬aO (x,y)=aO (i,j):=fun z=>by
       have hk:=(iA z).1;subst hk;rw[r1]at hb;exact e (Zp hb).symm
      simp[this]
   ·rintro σ H2 ⟨⟨v2,v3,rfl⟩,k2,T2⟩;rw[Lo,List.take_length]at T2;exact⟨⟨_,_,_,rfl⟩,k2,by rw[et];exact T2⟩
  ·rintro σ H1 ⟨_,k1,T1⟩;rw[hlen,List.take_length]at T1;exact q H1 k1 (cw H1 k1) T1
variable(dS:CH mg "FINDINGS_MOST" (.int 20))
variable(gW:cK P w K mg base true 2 "open_worths" ["first","second","terms","taken"] (sM aU))
variable(gc:cK P w K mg base true 7 "make_round" ["worths","terms"] (oh aU ay))
variable(iE:cK P w K mg base true 1 "shut_pairs" ["worths","findings"] (sN ay))
variable(kj:cK P w K mg base true 1 "order_of" ["finding"] (sq ay))
variable(dz:Er K mg "TooMany" aM)
theorem iS:aJ ["first","second","terms","worths","findings","made"] ["first","second","terms"] (ao p8):=iV
include T fj dS gW gc iE kj dz in
theorem ZX{f:Addr}{fd:FuncData}(F:lO K "compare" "compare" p8 f fd):bf P w K mg base (dD P w) true 8 f fd ["first","second","terms"] (vV aU ay aM):=by
 refine F.iL iS Zs iW
 ·obtain⟨a,b,t,c,rfl,_⟩:=h;rfl
 ·obtain⟨a,b,t,c,rfl,ha,hb,TF,hx,hy,q1,q2⟩:=h;refine⟨_,(Zf (Y3 (3) iS.nd (Y5 gW aV (Y2 (pv 0) (Y2 (pv 1) (Y2 (pv 2) (Y2 jY af)))))) (Zf (Y3 (4) iS.nd (@bS _ _ _ _ af)) (Zf (Y3 (5) iS.nd (Y5 gc aV (Y2 (pv 3) (Y2 (pv 2) af)))) (Zf (@rJ _ _ _ _ _ _ hX.own (@aZ _ _ _ _ _ _ _ _ qy (Y4 (aK K) T.d6 PyProof.Rows.Boot.«len» (Y2 (pv 5) af)) aq (aY _)) (Zf (@bg _ _ _ _ (Zc K PySem.F.plainAttrs_list PySem.F.slot_list_extend PySem.F.type_list_extend uJ (pv 4) (Y2 (pv 5) af)) (Zw)) (Zf (Zm (@aZ _ _ _ _ _ _ _ _ qy (Y4 (aK K) T.d6 PyProof.Rows.Boot.«len» (Y2 (pv 4) af)) (@ft _ _ _ _ dS (Zw) (Zv)) (aY _)) (Zg (@iK _ _ _ _ _ _ _ _ _ _ hX Zt (by exact rfl) dz.m dz.e (Y2 (@lP _ _ _ _ _ _ (@eW _ _ _ _ _ bb (@eW _ _ _ _ _ (@pI _ _ _ _ (@ft _ _ _ _ dS (Zw) (Zv))) (@eW _ _ _ _ _ bb vp)))) af) (Zv) (Zw) (Zw))) aR) (Zf (@bg _ _ _ _ (Y5 iE aV (Y2 (pv 3) (Y2 (pv 5) af))) (Zw)) (Zg (Y3 (5) iS.nd (Y5 gc aV (Y2 (pv 3) (Y2 (pv 2) af))))))))) (Zg (@aQ _ _ _ _ (@Em _ K _ _ _ _ _ _ _ _ _ _ _ kj (hr.mono (Zv)) (pv 4) (by exact rfl) fj (Zw) (Zv) (Zw) (Zw)))))))),?_⟩;have xD:c.xs.length*c.ys.length≤3000:=Nat.le_trans (Nat.mul_le_mul hx hy) (Zv);have Sz:=J1 c [];refine⟨fun σ H1=>∃w as,σ=[sR a,sR b,sR t,sR w,none,none]∧ar H H1∧H1 w=some (.lst (as.map V.ref))∧iN H1 as (mf c []) c.xs.length c.ys.length∧as.Nodup∧w∉as∧∀a∈as,H a=none,?_,?_⟩
  ·exact⟨_,rfl,_,rfl,_,rfl,a,b,t, .cn,c,[],rfl,ha,hb,TF, .inl ⟨rfl,rfl⟩,Zx,by lia,by lia,fun H1 w as s1 h1 _ h3 h4 h5 h6=>⟨w,as,rfl,s1,h1,h3,h4,h5,h6⟩⟩
  rintro σ H1 ⟨w,as,rfl,s1,xX,SA,Nx,nw,has⟩;refine⟨fun σ H2=>∃fl,σ=[sR a,sR b,sR t,sR w,sR fl,none]∧ar H1 H2∧H1 fl=none∧H2 fl=some (.lst []),⟨ax Zr,fun fl h=>⟨fl,rfl,ar.upd h,h,ae⟩⟩,?_⟩;rintro σ H2 ⟨fl,rfl,s2,K6,Oo⟩;have alloc:∀x∈as,∃xs,H1 x=some (.lst xs):=fun x hx=>by
   obtain⟨k,hk,ek⟩:=List.mem_iff_getElem.mp hx;exact⟨_,SA.row k x (by rw[List.getElem?_eq_getElem hk,ek])⟩
  have UZ:fl∉as:=fun z=>by
   obtain⟨xs,h⟩:=alloc fl z;rw[K6]at h;cases h
  have Hm:w≠fl:=aA xX K6;have rd:∀f H3,(∀x∈as,∃xs,H3 x=some (.lst xs))→H3 w=some (.lst (as.map V.ref))→iN H3 as f c.xs.length c.ys.length→ar H H3→∀done,Reach (mf c []) c.out c.into c.least done f→∀(Q':VK)(E':XK),(∀H4 r,ar H3 H4→H3 r=none→∀us ds,H4 r=some (.lst us)→cA (fun b=>H3 b=none) H4 ay us ds→((us=[]∧ds=[]∧Stop f c.out c.into c.least)∨(us≠[]∧∃W gs,j_ f c.out c.into c.least W gs ds))→Q' (.ref r) H4)→oh aU ay [.ref w, .ref t] H3 Q' E':=fun f H3 al h3 T3 s3 done RC Q' E' k=>by
   refine⟨w,t,as,c,f,_,_,rfl,h3,T3,TF.keep s3,RC.RO Sz,xD,by lia,by lia,fun st H4 r s4 h4 h5=>k H4 r s4 h4 [] [] h5 .nil (.inl ⟨rfl,rfl,st⟩),fun W gs ds R So H4 r us s4 h4 h5 FL=>k H4 r s4 h4 us ds h5 FL (.inr ⟨fun z=>So ?_,W,gs,R⟩)⟩;have:=FL.1;rw[z]at this;have:ds=[]:=List.length_eq_zero_iff.mp (by simpa using this.symm);rw[←R.Fo,this];rfl
  have U0:∀b o,b∉as→b≠fl→H1 b=some o→H2 b=some o:=fun b o _ _ e=>s2 b o e
  have LN:=s1.trans s2;refine⟨fun σ H3=>∃md us ds,σ=[sR a,sR b,sR t,sR w,sR fl,sR md]∧ar H2 H3∧H2 md=none∧H3 md=some (.lst us)∧cA (fun b=>H2 b=none) H3 ay us ds∧((us=[]∧ds=[]∧Stop (mf c []) c.out c.into c.least)∨(us≠[]∧∃W gs,j_ (mf c []) c.out c.into c.least W gs ds)),?_,?_⟩
  ·exact⟨_,rfl,_,rfl,rd _ H2 (fun x hx=>let ⟨xs,h⟩:=alloc x hx;⟨xs,s2 _ _ h⟩) (s2 _ _ xX) (SA.same s2) LN [] .start _ _ fun H4 r s4 h4 us ds h5 FL z=>⟨r,us,ds,rfl,s4,h4,h5,FL,z⟩⟩
  rintro σ H3 ⟨md,us,ds,rfl,s3,Hn,SD,XY,Z3⟩;refine⟨fun σ H5=>∃md ul es f,σ=[sR a,sR b,sR t,sR w,sR fl,sR md]∧ar H H5∧H5 fl=some (.lst ul)∧cA (fun b=>H2 b=none) H5 ay ul es∧Reach (mf c []) c.out c.into c.least es f∧Stop f c.out c.into c.least∧es.length≤20,?_,?_⟩
  ·refine⟨fun mm σ H4=>∃md us ds ul es f,mm+es.length=20∧σ=[sR a,sR b,sR t,sR w,sR fl,sR md]∧ar H H4∧(∀b o,b∉as→b≠fl→H2 b=some o→H4 b=some o)∧iN H4 as f c.xs.length c.ys.length∧H4 fl=some (.lst ul)∧cA (fun b=>H2 b=none) H4 ay ul es∧Reach (mf c []) c.out c.into c.least es f∧H2 md=none∧H4 md=some (.lst us)∧cA (fun b=>H2 b=none) H4 ay us ds∧((us=[]∧ds=[]∧Stop f c.out c.into c.least)∨(us≠[]∧∃W gs,j_ f c.out c.into c.least W gs ds)),⟨20,md,us,ds,[],[],mf c [],rfl,rfl,LN.trans s3,fun b o _ _ e=>s3 b o e,(SA.same s2).same s3,s3 _ _ Oo, .nil, .start,Hn,SD,XY,Z3⟩,?_⟩;rintro mm σ H4 ⟨md,us,ds,ul,es,f1,YT,rfl,sH,k4,T4,Ho,FE,RC,Hn,K7,FD,Z4⟩;have XZ:∀x∈as,∃xs,H2 x=some (.lst xs):=fun x hx=>let ⟨xs,h⟩:=alloc x hx;⟨xs,s2 _ _ h⟩
   have P2:∀{b},H2 b=none→b∉as:=fun{b} h z=>by
    obtain⟨xs,h'⟩:=XZ b z;rw[h]at h';cases h'
   have SE:∀{b},H2 b=none→b≠fl:=fun{b} h z=>by rw[z,Oo]at h;cases h
   have PV:=FE.1;have YU:=FD.1;refine⟨_,rfl,md,_,rfl, .inl (.of K7),_,_,rfl,rfl,_,rfl,?_⟩;refine bB (fun hh=>?_) (fun hh=>?_)
   ·have hh:0<us.length:=by simpa using hh
    rcases Z4 with⟨z1,_,_⟩|⟨U1,W,gs,R⟩
    ·rw[z1]at hh;simp at hh
    have Pp:ds.length≤c.xs.length*c.ys.length:=by
     have:=R.told.Bk (n:=c.xs.length) (m:=c.ys.length) fun g hg q hq=>by
      obtain⟨ps,wp,hm⟩:=(R.told.mem hg hq).on;exact jw (RC.RO Sz) wp.1 hm
     rw[←R.Fo,List.length_map]at this;exact this
    refine⟨_,fun a7 H' z=>z,?_⟩;have X0:md≠fl:=SE Hn;refine⟨fun σ H5=>σ=[sR a,sR b,sR t,sR w,sR fl,sR md]∧H5=upd H4 fl (.lst (ul++us)),⟨_,rfl, .inl ⟨rfl,_, .of Ho⟩,_,rfl,fl,md,ul,us,rfl,rfl,Ho,K7,ax Zq,rfl,rfl⟩,?_⟩;rintro σ H5 ⟨rfl,rfl⟩;have U2:ar H (upd H4 fl (.lst (ul++us))):=sH.fA (s1.free K6);have U3:dR H4 (upd H4 fl (.lst (ul++us))):=dR.lst Ho;have X1:cA (fun b=>H2 b=none) (upd H4 fl (.lst (ul++us))) ay ul es:=FE.keep (fun b o hb e=>by rw[ai (SE hb)];exact e) U3 fun _ h=>h
    have U4:cA (fun b=>H2 b=none) (upd H4 fl (.lst (ul++us))) ay us ds:=FD.keep (fun b o hb e=>by rw[ai (SE hb)];exact e) U3 fun _ h=>h
    have SF:=RC.round R;refine⟨fun σ H6=>σ=[sR a,sR b,sR t,sR w,sR fl,sR md]∧H6=upd H4 fl (.lst (ul++us))∧(es++ds).length≤20,?_,?_⟩
    ·refine⟨_,rfl,fl,_,rfl, .inl (.of ae),_,_,rfl,rfl,_,rfl,?_⟩;refine bB (fun h9=>?_) (fun h9=>?_)
     ·have h9:20<(ul++us).length:=by
       have:(20:Int)<((ul++us).length:Nat):=by simpa using h9
       lia
      have:=q2 _ _ SF (by rw[List.length_append]at h9⊢;lia) _ U2;have z:(20:Int).natAbs.log2<1920∧(Str.ofString (toString (20:Int))).length≤6:=⟨Zv,by decide+kernel⟩
      have w1:(Str.ofString "there are at most ").length=18:=by decide+kernel
      have w2:(Str.ofString " findings between two books").length=27:=by decide+kernel
      have w3:=lQ;refine⟨_,rfl,ax ?_, .inr ⟨20,rfl,z.1,_,rfl,ax ?_,_,rfl,ax ?_,ax ?_,g7,this⟩⟩;all_goals (simp only[len_app];lia)
     ·have h9:¬20<(ul++us).length:=by
       have:¬(20:Int)<((ul++us).length:Nat):=by simpa using h9
       lia
      exact⟨rfl,rfl,by rw[List.length_append]at h9⊢;lia⟩
    rintro σ H6 ⟨rfl,rfl,hle⟩;refine⟨fun σ H7=>σ=[sR a,sR b,sR t,sR w,sR fl,sR md]∧(∀b o,b∉as→upd H4 fl (.lst (ul++us)) b=some o→H7 b=some o)∧dR (upd H4 fl (.lst (ul++us))) H7∧iN H7 as (jN f1 gs.flatten) c.xs.length c.ys.length,?_,?_⟩
    ·refine⟨_,rfl,_,rfl,w,md,as,us,ds,f1,_,_,rfl,by rw[ai Hm];exact k4 _ _ nw Hm (s2 _ _ xX),Nx,nw,⟨T4.len,fun i x hx=>by rw[ai (fun z=>UZ (by rw[←z];exact Zd hx))];exact T4.row i x hx⟩,by rw[ai X0];exact K7,P2 Hn,U4.keep (fun _ _ _ h=>h) (fun _ _ h=>h) (fun _ h=>P2 h),fun d hd q hq=>?_,fun H7 k7 t7 T7=>⟨rfl,k7,t7,by rw[←R.Fo];exact T7⟩⟩;have hg:d.pairs∈gs:=by rw[←R.Fo];exact List.mem_map.mpr ⟨d,hd,rfl⟩
     obtain⟨ps,wp,hm⟩:=(R.told.mem hg hq).on;exact jw (RC.RO Sz) wp.1 hm
    rintro σ H7 ⟨rfl,k7,t7,T7⟩;have U5:ar H H7:=fun b o e=>k7 b o (fun z=>by rw[has b z]at e;cases e) (U2 b o e)
    have U6:∀x∈as,∃xs,H7 x=some (.lst xs):=fun x hx=>by
     obtain⟨k,hk,ek⟩:=List.mem_iff_getElem.mp hx;exact⟨_,T7.row k x (by rw[List.getElem?_eq_getElem hk,ek])⟩
    have w7:H7 w=some (.lst (as.map V.ref)):=k7 w _ nw (by rw[ai Hm];exact k4 _ _ nw Hm (s2 _ _ xX));have F7:cA (fun b=>H2 b=none) H7 ay (ul++us) (es++ds):=(X1.append U4).keep (fun b o hb e=>k7 b o (P2 hb) e) t7 fun _ h=>h
    have U7:H7 fl=some (.lst (ul++us)):=k7 fl _ UZ ae;refine⟨_,rfl,_,rfl,rd _ H7 U6 w7 T7 U5 _ SF _ _ fun H8 r s8 h8 X2 X3 X4 X5 Z8=>?_⟩;have U8:∀b,H7 b=none→H2 b=none:=fun b h=>by
     cases e:H2 b with
     |none=>rfl
     |some o=>
      by_cases SG:b∈as
      ·obtain⟨xs,h'⟩:=U6 b SG;rw[h]at h';cases h'
      ·by_cases SH:b=fl
       ·rw[SH,U7]at h;cases h
       ·rw[k7 b o SG (by rw[ai SH];exact k4 b o SG SH e)]at h;cases h
    refine⟨20-(es++ds).length,?_,r,X2,X3,ul++us,es++ds,_,by lia,rfl,U5.trans s8,fun b o h1 h2 e=>s8 b o (k7 b o h1 (by rw[ai h2];exact k4 b o h1 h2 e)),T7.same s8,s8 _ _ U7,F7.keep (fun b o _ e=>s8 b o e) (dR.same s8) fun _ h=>h,SF,U8 r h8,X4,X5.keep (fun _ _ _ h=>h) (fun _ _ h=>h) fun b h=>U8 b h,Z8⟩;rw[List.length_append]at hle⊢
    lia
   ·have hh:us.length=0:=by
     have:¬(0:Int)<(us.length:Nat):=by simpa using hh
     lia
    rcases Z4 with⟨_,_,z3⟩|⟨U1,_⟩
    ·exact⟨md,ul,es,f1,rfl,sH,Ho,FE,RC,z3,by lia⟩
    ·exact absurd (List.length_eq_zero_iff.mp hh) U1
  rintro σ H5 ⟨md,ul,es,f1,rfl,sH,SI,FE,RC,ST,hle⟩;have PV:=FE.1;have AP:=RC.apart;have Oq:∀d∈es,bY d.pairs∈d.pairs:=fun d hd=>by
   cases e:d.pairs with
   |nil=>exact absurd e (AP.tQ d hd).2
   |cons a r=>simp[bY]
  refine⟨_,rfl,fl,ul,es.map (fun d=>(-d.worth,bY d.pairs)),rfl, .of SI,by rw[List.length_map];lia,?_,by lia,fun i v H6 hv s6=>?_,fun p H6 D hp hs s6 hD Oi=>?_⟩
  ·refine List.pairwise_map.mpr (List.Pairwise.imp_of_mem (fun{x y} hx hy xD e=>?_) AP.ap);have:=(Prod.mk.inj e).2;exact xD _ (Oq x hx) (by rw[this];exact Oq y hy)
  ·have hi:i<es.length:=by rw[←PV];exact(Y' hv).1
   have ei:es[i]?=some es[i]:=by simp[hi]
   have iO:es[i]∈es:=List.getElem_mem hi;have eg:(es.map fun d=>(-d.worth,bY d.pairs)).getD i (0,(0,0))=(-es[i].worth,bY es[i].pairs):=by simp[hi]
   rw[eg];generalize es[i]=d at ei iO;obtain⟨x,dy,wy,i7,pr,kL,iP,e1,F⟩:=FE.2 i d ei;rw[hv]at e1;cases e1;exact⟨x,dy,wy,i7,pr,d.worth,iP,d.pairs,rfl,s6 _ _ F.ob,s6 _ _ F.hp,F.pp.same s6,(AP.tQ d iO).2,fun H7 k t s7 hk ht=>⟨s7,k,t,rfl,hk,ht⟩⟩
  ·have pG:p.toList.Perm (List.range es.length):=by rw[←PV];exact hp
   have K8:∀i∈p.toList,i<es.length:=fun i hi=>by simpa using pG.mem_iff.mp hi
   have dflt:Fd:=⟨0,[],[],[]⟩
   refine q1 (p.toList.map fun i=>es.getD i dflt) ⟨⟨es,f1,RC,ST,?_⟩,?_,?_⟩ _ D _ ((sH.trans s6).fA (sH.free hD)) (sH.free hD) ae ?_
   ·have e1:(List.range es.length).map (fun i=>es.getD i dflt)=es:=by
     apply List.ext_getElem
     ·simp
     ·intro i h1 h2;simp[h2]
    have:=pG.map fun i=>es.getD i dflt
    rw[e1]at this;exact this
   ·rw[List.length_map,pG.length_eq,List.length_range];exact hle
   ·rw[List.pairwise_map,List.pairwise_iff_getElem];intro i j hi hj nZ;have hsz:p.size=es.length:=by have:=pG.length_eq;simpa using this
    have:=hs i j nZ (by rw[PV,←hsz];simpa using hj);have g1:gd p i=p.toList[i]:=by rw[DK];simp at hi;simp[hi]
    have g2:gd p j=p.toList[j]:=by rw[DK];simp at hj;simp[hj]
    rw[g1,g2]at this;have l1:=K8 _ (List.getElem_mem hi);have l2:=K8 _ (List.getElem_mem hj);generalize p.toList[i]=x at this l1;generalize p.toList[j]=y at this l2;unfold kl pS at this;unfold NM;simp only[List.getD_eq_getElem?_getD,List.getElem?_map,List.getElem?_eq_getElem l1,List.getElem?_eq_getElem l2,Option.map_some,Option.getD_some]at this⊢;by_cases ew:es[x].worth=es[y].worth
    ·rw[Zi ew];rw[Zi (by rw[ew])]at this;exact this
    ·rw[Ze ew];rw[Ze (fun z=>ew Zq)]at this;simp at this⊢
     lia
   ·refine⟨Zx,fun k d hk=>?_⟩;rw[List.getElem?_map]at hk;cases e:p.toList[k]? with
    |none=>rw[e]at hk;cases hk
    |some i=>
     rw[e]at hk;have hi:=K8 i (Zd e);have hd:es.getD i dflt=d:=by simpa using hk
     have ei:es[i]?=some d:=by rw[←hd];simp[hi]
     obtain⟨x,dy,wy,i7,pr,kL,iP,e1,F⟩:=FE.2 i d ei;have nD:∀{b o},H5 b=some o→b≠D:=fun h z=>by rw[z,hD]at h;cases h
     refine⟨x,dy,wy,i7,pr,kL,iP,?_,F.ob|>fun h=>⟨by rw[ai (nD h)];exact s6 _ _ h,by rw[ai (nD F.hw)];exact s6 _ _ F.hw,(F.pw.same s6).same (ar.upd Oi),by rw[ai (nD F.hr)];exact s6 _ _ F.hr,by rw[ai (nD F.hp)];exact s6 _ _ F.hp,(F.pp.same s6).same (ar.upd Oi),LN.free F.fa,LN.free F.fw,LN.free F.fr,LN.free F.fp⟩⟩;rw[List.getElem?_map,e];show some (ul.getD i .cn)=_;simp[e1]
theorem zA:aJ ["_law_script","_law_k"] ["_law_script","_law_k"] (ao p9):=iV
include T in
theorem zB{f:Addr}{fd:FuncData}(F:lO K "_law_at" "_law_at" p9 f fd):bf P w K mg base (dD P w) true 1 f fd ["_law_script","_law_k"] (Dm K):=by
 refine F.iL zA Zs iW
 ·obtain⟨a,ns,k,rfl,_⟩:=h;rfl
 ·obtain⟨a,ns,k,rfl,hS,h0,q⟩:=h;refine⟨_,(Zn (Zm (@aZ _ _ _ _ _ _ _ _ xb (pv 1) (Y4 (aK K) T.d6 PyProof.Rows.Boot.«len» (Y2 (pv 0) af)) (aY _)) (Zg (@aQ _ _ _ _ (Y8 (aG K) (pv 0) (pv 1)))) aR) (Zg (@aQ _ _ _ _ aq))),?_⟩;refine⟨_,rfl,_,rfl,a,_,rfl, .inl hS,_,_,rfl,rfl,_,rfl,?_⟩;refine bB (fun h=>?_) (fun h=>?_)
  ·have h:k<((ns.map V.int).length:Int):=by simpa using h
   rw[List.length_map]at h;exact⟨_,rfl,_,rfl,a,_,k,_,rfl,rfl,hS,Gh h0 h,q⟩
  ·have h:¬k<((ns.map V.int).length:Int):=by simpa using h
   rw[List.length_map]at h;rw[cell_out h0 h]at q;exact q
theorem ua:aJ ["_law_found"] ["_law_found"] (ao kf):=iV
include T in
theorem ub{f:Addr}{fd:FuncData}(F:lO K "_law_whole" "_law_whole" kf f fd):bf P w K mg base (dD P w) true 1 f fd ["_law_found"] r9:=by
 refine F.iL ua Zs iW
 ·obtain⟨i,rfl,_⟩:=h;rfl
 ·obtain⟨i,rfl,q⟩:=h;refine⟨_,(Zg (@aQ _ _ _ _ (@pD _ _ _ _ _ _ _ (Y4 (gE K) T.aP PyProof.Rows.Boot.«isinstance» (Y2 (pv 0) (Y2 (@i5 _ _ (.ty "int") _ _ (by exact rfl) T.M5 PyProof.Rows.Boot.«int» Zt (Zv) (Zv)) af))) (@pC _ _ _ _ _ (@Je _ _ _ _ (Y4 (gE K) T.aP PyProof.Rows.Boot.«isinstance» (Y2 (pv 0) (Y2 (@i5 _ _ (.ty "bool") _ _ (by exact rfl) T.JQ PyProof.Rows.Boot.«bool» Zt (Zv) (Zv)) af)))))))),?_⟩;refine⟨_,rfl,_,_,_,true,_,rfl,rfl, .int i,rfl,_,rfl,?_⟩;refine jH ?_;exact⟨_,rfl,_,_,_,false,_,rfl,rfl, .int i,by kernel_rfl,_,rfl,q⟩
theorem bC:aJ ["_law_cell","_law_other","_law_many","_law_letters","_law_stem","_law_rest","_law_k","_law_size","_law_found","_law_spot","_law_sign"] ["_law_cell","_law_other","_law_many"] (ao lq):=iV
include T in
theorem vY{f:Addr}{fd:FuncData}(F:lO K "_law_bank" "_law_bank" lq f fd):bf P w K mg base (dD P w) true 1 f fd ["_law_cell","_law_other","_law_many"] vF:=by
 refine F.iL bC Zs iW
 ·obtain⟨cell,other,many,rfl,_⟩:=h;rfl
 ·obtain⟨cell,other,many,rfl,YV,hm,q⟩:=h;have YW:=Gk;have U9:(0:Int)<26:=Zv;have U_:(0:Int)<12:=Zv;refine⟨_,(Zn (Y3 (3) bC.nd bb) (Zn (Y3 (4) bC.nd bb) (Zn (Y3 (5) bC.nd (Za j1 (pv 0) aq)) (Zn (@dI _ _ _ _ _ _ _ _ hX.own Zt (@gC _ _ _ _ _ _ (by exact rfl) T.gN (Y2 aq af) (Zw)) (Y6 (6) bC.nd (Or.inl rfl)) (Zn (Y3 (4) bC.nd (Za mP (pv 4) (Y8 CW (pv 3) (Za de (pv 5) aq)))) (Zg (Y3 (5) bC.nd (Za j1 (pv 5) aq)))) (by intro _;rfl)) (Zn (Y3 (7) bC.nd (Za c_ aq (Za de (Za j1 (pv 0) aq) aq))) (Zn (Y3 (8) bC.nd (@bS _ _ _ _ af)) (Zn (@dI _ _ _ _ _ _ _ _ hX.own Zt (@gC _ _ _ _ _ _ (by exact rfl) T.gN (Y2 (pv 2) af) (Zw)) (Y6 (6) bC.nd (Or.inl rfl)) (Zg (Zm (@aZ _ _ _ _ _ _ _ _ jD (Za de (pv 0) aq) aq (aY _)) (Zg (@bg _ _ _ _ (Zc K PySem.F.plainAttrs_list PySem.F.slot_list_append PySem.F.type_list_append dh (pv 8) (Y2 (@rQ _ _ _ _ _ _ _ _ _ _ yR (pv 4) ZQ (@rj _ _ _ (Za c_ aq (Za de (Za c_ (pv 7) (pv 6)) aq)))) af)) (Zw))) (Zn (Y3 (9) bC.nd (Za de (pv 1) (pv 7))) (Zn (Y3 (10) bC.nd (Y8 CW (pv 3) (Za de (Za c_ (Za j1 (pv 1) aq) (pv 6)) aq))) (Zg (@bg _ _ _ _ (Zc K PySem.F.plainAttrs_list PySem.F.slot_list_append PySem.F.type_list_append dh (pv 8) (Y2 (Za mP (Za mP (@rQ _ _ _ _ _ _ _ _ _ _ yR (pv 4) ZQ (@rj _ _ _ (pv 9))) (pv 10)) (@rQ _ _ _ _ _ _ _ _ _ _ yR (pv 4) (@rj _ _ _ (Za c_ (pv 9) aq)) (@rj _ _ _ (pv 7)))) af)) (Zw))))))) (by intro _;rfl)) (Zg (@aQ _ _ _ _ (pv 8)))))))))),?_⟩;refine⟨_,rfl,_,_,rfl,rfl,⟨Zv,Zv⟩,?_⟩;refine⟨12,rfl,Zv,Zv,?_⟩;refine lL (fun i σ H'=>H'=H∧∃(bM:Str)(rest:Int)(kv:Option V),bM.length=i∧lows bM∧σ=[sI cell,sI other,sI many,sS Nc,sS bM,sI rest,kv,none,none,none,none]) ⟨rfl,_,_,_,(by decide+kernel),(show(Str.ofString "").cps.toList.all low=true by decide+kernel),rfl⟩ ?_ ?_
  ·rintro i σ H' hi ⟨rfl,bM,rest,kv,hl,K9,rfl⟩;have hi:i<12:=hi;refine⟨_,rfl,_,rfl,_,rfl,_,_,rfl,rfl,U9,_,_,_,rfl,rfl,ax Zq,Dv,_,_,rfl,rfl,ax (show bM.length+1≤100000 by lia),?_⟩;refine⟨_,rfl,_,_,rfl,rfl,⟨Zv,Zv⟩,rfl,_,_,_,?_,?_,rfl⟩
   ·rw[len_app,hl];rfl
   ·have h1:bM.cps.toList.all low=true:=K9;have h2:=Ag rest;unfold lows;rw[nW,List.all_append,h1];simp[h2]
  ·rintro σ H' ⟨rfl,bM,rest,kv,hl,K9,rfl⟩;have hl:bM.length=12:=hl;refine⟨_,rfl,_,_,rfl,rfl,⟨Zv,Zv⟩,_,_,rfl,rfl,U_,_,_,rfl,rfl,?_⟩;have z0:1≤1+cell/2%12∧1+cell/2%12≤12:=by lia
   refine⟨ax Zr,fun D hD=>?_⟩;refine⟨_,rfl,many,rfl,by lia,by lia,?_⟩;refine lL (fun i σ H2=>(∃u v w,σ=[sI cell,sI other,sI many,sS Nc,sS bM,sI rest,u,sI (1+cell/2%12),sR D,v,w])∧H2 D=some (.lst (((List.range i).map (jK bM cell other)).map V.str))∧ar H' H2) ⟨⟨_,_,_,rfl⟩,ae,ar.upd hD⟩ ?_ ?_
   ·rintro i σ H2 hi ⟨⟨u,v,w,rfl⟩,mG,s2⟩;have hi:i<12:=by lia
    have nx:∀z,z=jK bM cell other i→(List.range i).map (fun k=>V.str (jK bM cell other k))++[V.str z]=((List.range (i+1)).map (jK bM cell other)).map V.str:=fun z e=>by
     rw[List.range_succ,e];simp
    have ie:(((List.range i).map (jK bM cell other)).map V.str).length<sizeLine:=bh (by simp;lia);refine⟨_,rfl,_,_,rfl,rfl,(show(0:Int)<2 by decide),rfl,_,rfl,?_⟩;refine bB (fun h=>?_) (fun h=>?_)
    ·have h:cell%2=1:=by simpa using h
     refine⟨_,rfl, .inl ⟨rfl,_, .of mG⟩,_,rfl,_,rfl,_,rfl,_,_,rfl,rfl,_,_,rfl,rfl,U_,_,_,rfl,rfl,_,rfl,bM,rfl,ax Zq,D,_,_,rfl,rfl,mG,ie,⟨_,_,_,rfl⟩,?_,s2.fA hD⟩;rw[ae];have:=nx (Txt.slice bM none (some (1+(1+cell/2%12+(0+(i:Int)))%12))) (by simp[jK,h]);rw[←this];simp
    ·have h:¬cell%2=1:=by simpa using h
     have z1:0≤other%(1+cell/2%12)∧other%(1+cell/2%12)<1+cell/2%12:=⟨Int.emod_nonneg _ (by lia),Int.emod_lt_of_pos _ (by lia)⟩
     have b1:=uO bM none (some (other%(1+cell/2%12)));have b2:=uO bM (some (other%(1+cell/2%12)+1)) (some (1+cell/2%12));refine⟨_,rfl,_,rfl,_,_,rfl,rfl,(show(0:Int)<1+cell/2%12 by lia),?_⟩;refine⟨_,rfl,_,rfl,_,_,rfl,rfl,⟨Zv,Zv⟩,_,rfl,_,_,rfl,rfl,_,_,rfl,rfl,U9,_,_,_,rfl,rfl,ax Zq,Dv,?_⟩;refine⟨_,rfl, .inl ⟨rfl,_, .of mG⟩,_,rfl,_,rfl,_,rfl,bM,rfl,ax Zq,_,rfl,_,_,rfl,rfl,ax (show(Txt.slice bM none (some (other%(1+cell/2%12)))).length+1≤100000 by lia),_,rfl,_,rfl,_,_,rfl,rfl,_,rfl,_,rfl,_,rfl,bM,rfl,ax Zq,_,_,rfl,rfl,?_,D,_,_,rfl,rfl,mG,ie,⟨_,_,_,rfl⟩,?_,s2.fA hD⟩
     ·rw[len_app];exact ax (show(Txt.slice bM none (some (other%(1+cell/2%12)))).length+1+_≤100000 by lia)
     rw[ae];have:=nx (Txt.slice bM none (some (other%(1+cell/2%12)))++⟨#[97+((other/12+(0+(i:Int)))%26).toNat]⟩++Txt.slice bM (some (other%(1+cell/2%12)+1)) (some (1+cell/2%12))) (by simp[jK,h]);rw[←this];simp
   ·rintro σ H2 ⟨⟨u,v,w,rfl⟩,mG,s2⟩;refine⟨_,rfl,q H2 D _ s2 hD mG Zr ?_ (yT hl cell other (by lia))⟩;intro z hz;obtain⟨k,_,rfl⟩:=List.mem_map.mp hz;exact Dz hl K9 cell other k
variable(a_:cK P w K mg base true 1 "_law_whole" ["_law_found"] r9)
theorem mH:aJ ["_law_found","_law_pair"] ["_law_found"] (ao kg):=iV
include T a_ in
theorem uc{f:Addr}{fd:FuncData}(F:lO K "_law_pairs" "_law_pairs" kg f fd):bf P w K mg base (dD P w) true 2 f fd ["_law_found"] pL:=by
 refine F.iL mH Zs iW
 ·obtain⟨a,us,ps,rfl,_⟩:=h;rfl
 ·obtain⟨a,us,ps,rfl,ha,P1,q⟩:=h;refine⟨_,(Zn (Zm (@cM _ _ _ _ (@bQ _ _ _ (Y4 (gE K) T.aP PyProof.Rows.Boot.«isinstance» (Y2 (pv 0) (Y2 (@i5 _ _ (.ty "list") _ _ (by exact rfl) T.r6 PyProof.Rows.Boot.«list» Zt (Zv) (Zv)) af))) (by intro _;rfl))) (Zg (@aQ _ _ _ _ eE)) aR) (Zn (@dI _ _ _ _ _ _ _ _ hX.own Zt (@cj _ K _ _ _ (pv 0) (Zw)) (Y6 (1) mH.nd (Or.inl rfl)) (Zn (Zm (@PW.pt _ _ _ (@pw_or _ _ _ _ _ _ _ (@cM _ _ _ _ (@bQ _ _ _ (Y4 (gE K) T.aP PyProof.Rows.Boot.«isinstance» (Y2 (pv 1) (Y2 (@i5 _ _ (.ty "tuple") _ _ (by exact rfl) T.Gg PyProof.Rows.Boot.«tuple» Zt (Zv) (Zv)) af))) (by intro _;rfl))) (@pw_or1 _ _ _ _ (@aZ _ _ _ _ _ _ _ _ rL (Y4 (aK K) T.d6 PyProof.Rows.Boot.«len» (Y2 (pv 1) af)) aq (aY _))))) (Zg (@aQ _ _ _ _ eE)) aR) (Zg (Zm (@PW.pt _ _ _ (@pw_or _ _ _ _ _ _ _ (@cM _ _ _ _ (@bQ _ _ _ (Y5 a_ aV (Y2 (Y8 (bN K) (pv 1) aq) af)) (by intro _;rfl))) (@pw_or1 _ _ _ _ (@cM _ _ _ _ (@bQ _ _ _ (Y5 a_ aV (Y2 (Y8 (bN K) (pv 1) aq) af)) (by intro _;rfl)))))) (Zg (@aQ _ _ _ _ eE)) aR))) (by intro _;rfl)) (Zg (@aQ _ _ _ _ eE)))),?_⟩;refine⟨_,rfl,_,_,_,true,_,rfl,rfl, .lst ha,rfl,_,rfl,?_⟩;refine g6 ?_;refine⟨_,rfl,a,rfl,⟨_, .of ha⟩,?_⟩;refine eF (xs:=us) (fun i σ H'=>(∃u,σ=[sR a,u])∧H'=H) ⟨⟨_,rfl⟩,rfl⟩ ?_ ?_ ?_
  ·rintro i σ H' _ ⟨_,rfl⟩;exact .of ha
  ·rintro i v σ H' hv ⟨⟨u,rfl⟩,rfl⟩;have hi:i<ps.length:=by rw[←P1.1];exact(Y' hv).1
   obtain⟨t,E3,yx⟩:=P1.Q_ hi;rw[hv]at E3;cases E3;refine⟨_,rfl,_,_,_,true,_,rfl,rfl, .tup yx,rfl,_,rfl,?_⟩;refine g6 ?_;refine⟨_,rfl,t,_,rfl, .inr (.of yx),rfl,_,rfl,?_⟩;refine bB (fun hh=>absurd hh Zr) (fun _=>?_);refine⟨_,rfl,t,_,0,_,rfl,rfl, .of yx,aF (j:=0) rfl,_,rfl,_,rfl,?_⟩;refine g6 ?_;refine⟨_,rfl,t,_,1,_,rfl,rfl, .of yx,aF (j:=1) rfl,_,rfl,_,rfl,?_⟩;refine g6 ?_;exact⟨⟨_,rfl⟩,rfl⟩
  ·rintro σ H' ⟨⟨u,rfl⟩,rfl⟩;exact q
theorem qE:aJ ["_law_found","_law_due","_law_k"] ["_law_found","_law_due"] (ao m6):=iV
include T a_ in
theorem x_{f:Addr}{fd:FuncData}(F:lO K "_law_row" "_law_row" m6 f fd):bf P w K mg base (dD P w) true 2 f fd ["_law_found","_law_due"] yV:=by
 refine F.iL qE Zs iW
 ·obtain⟨a,b,is,rfl,_⟩:=h;rfl
 ·obtain⟨a,b,is,rfl,ha,hb,hlen,q⟩:=h;have el:(is.map V.int).length=is.length:=List.length_map ..;refine⟨_,(Zn (Zl (Zg (@aQ _ _ _ _ eE)) aR) (Zn (@dI _ _ _ _ _ _ _ _ hX.own Zt (@gC _ _ _ _ _ _ (by exact rfl) T.gN (Y2 (Y4 (aK K) T.d6 PyProof.Rows.Boot.«len» (Y2 (pv 1) af)) af) (Zw)) (Y6 (2) qE.nd (Or.inl rfl)) (Zg (Zm (@PW.pt _ _ _ (@pw_or _ _ _ _ _ _ _ (@cM _ _ _ _ (@bQ _ _ _ (Y5 a_ aV (Y2 (Y8 (aG K) (pv 0) (pv 2)) af)) (by intro _;rfl))) (@pw_or1 _ _ _ _ (@aZ _ _ _ _ _ _ _ _ rL (Y8 (aG K) (pv 0) (pv 2)) (Y8 (aG K) (pv 1) (pv 2)) (aY _))))) (Zg (@aQ _ _ _ _ eE)) aR)) (by intro _;rfl)) (Zg (@aQ _ _ _ _ eE)))),?_⟩;refine⟨_,rfl,_,_,_,true,_,rfl,rfl, .lst ha,rfl,_,rfl,?_⟩;refine g6 ?_;refine⟨_,rfl,a,_,rfl, .inl (.of ha),_,rfl,b,_,rfl, .inl (.of hb),rfl,_,rfl,?_⟩;refine bB (fun hh=>absurd hh Zr) (fun _=>?_);refine⟨_,rfl,b,_,rfl, .inl (.of hb),((is.map V.int).length:Int),rfl,by lia,by lia,?_⟩;refine lL (fun i σ H'=>(∃u,σ=[sR a,sR b,u])∧H'=H) ⟨⟨_,rfl⟩,rfl⟩ ?_ ?_
  ·rintro i σ H' hi ⟨⟨u,rfl⟩,rfl⟩;have hi:i<is.length:=by lia
   have hx:(is.map V.int)[i]?=some (.int is[i]):=by simp[hi]
   generalize is[i]=v at hx;refine⟨_,rfl,_,rfl,a,_,_,_,rfl,rfl, .of ha,Q9 hx,v,rfl,_,rfl,?_⟩;refine g6 ?_;refine⟨_,rfl,_,rfl,a,_,_,_,rfl,rfl, .of ha,Q9 hx,_,rfl,_,rfl,b,_,_,_,rfl,rfl, .of hb,Q9 hx,rfl,_,rfl,?_⟩;refine bB (fun hh=>absurd hh Zr) (fun _=>?_);exact⟨⟨_,rfl⟩,rfl⟩
  ·rintro σ H' ⟨⟨u,rfl⟩,rfl⟩;exact q
variable(l6:Er K mg "BadWord" fJ)
variable(l7:Er K mg "BadBook" fK)
variable(oE:Er K mg "BadWay" hJ)
variable(l8:Er K mg "BadName" fL)
variable(l_:Er K mg "BadYear" fM)
variable(je:Er K mg "NameTaken" dF)
variable(vZ:Er K mg "Full" lu)
variable(oF:Er K mg "NoBook" hU)
variable(jf:Er K mg "NoFinding" dG)
variable(l':Er K mg "HasLeft" fN)
variable(jg:Er K mg "BadSearch" dH)
theorem cW:aJ ["_law_e","_law_fits","_law_told","_law_alone"] ["_law_e"] (ao lr):=iV
include T eO bA dz l6 l7 oE l8 l_ je vZ oF jf l' jg in
theorem v5{f:Addr}{fd:FuncData}(F:lO K "_law_kind" "_law_kind" lr f fd):bf P w K mg base (dD P w) false 1 f fd ["_law_e"] (vB K [fJ,fK,bK,bF,hJ,fL,fM,dF,lu,aM,hU,dG,fN,dH]):=by
 refine F.iL cW Zs iW
 ·obtain⟨x,C,j,rfl,_⟩:=h;rfl
 ·obtain⟨x,C,j,rfl,hx,hE,hj,⟨fit,SJ⟩,q⟩:=h;refine⟨_,(Zf (Y3 (1) cW.nd (@bS _ _ _ _ (Y2 (Y4 (bE K) T.aP PyProof.Rows.Boot.«isinstance» (Y2 (pv 0) (Y2 (@c6 _ _ (.ref _) _ _ (by exact rfl) l6.m Zt (Zv)) af))) (Y2 (Y4 (bE K) T.aP PyProof.Rows.Boot.«isinstance» (Y2 (pv 0) (Y2 (@c6 _ _ (.ref _) _ _ (by exact rfl) l7.m Zt (Zv)) af))) (Y2 (Y4 (bE K) T.aP PyProof.Rows.Boot.«isinstance» (Y2 (pv 0) (Y2 (@c6 _ _ (.ref _) _ _ (by exact rfl) eO.m Zt (Zv)) af))) (Y2 (Y4 (bE K) T.aP PyProof.Rows.Boot.«isinstance» (Y2 (pv 0) (Y2 (@c6 _ _ (.ref _) _ _ (by exact rfl) bA.m Zt (Zv)) af))) af)))))) (Zf (Y3 (1) cW.nd (Za pH (pv 1) (@bS _ _ _ _ (Y2 (Y4 (bE K) T.aP PyProof.Rows.Boot.«isinstance» (Y2 (pv 0) (Y2 (@c6 _ _ (.ref _) _ _ (by exact rfl) oE.m Zt (Zv)) af))) (Y2 (Y4 (bE K) T.aP PyProof.Rows.Boot.«isinstance» (Y2 (pv 0) (Y2 (@c6 _ _ (.ref _) _ _ (by exact rfl) l8.m Zt (Zv)) af))) (Y2 (Y4 (bE K) T.aP PyProof.Rows.Boot.«isinstance» (Y2 (pv 0) (Y2 (@c6 _ _ (.ref _) _ _ (by exact rfl) l_.m Zt (Zv)) af))) (Y2 (Y4 (bE K) T.aP PyProof.Rows.Boot.«isinstance» (Y2 (pv 0) (Y2 (@c6 _ _ (.ref _) _ _ (by exact rfl) je.m Zt (Zv)) af))) af))))))) (Zf (Y3 (1) cW.nd (Za pH (pv 1) (@bS _ _ _ _ (Y2 (Y4 (bE K) T.aP PyProof.Rows.Boot.«isinstance» (Y2 (pv 0) (Y2 (@c6 _ _ (.ref _) _ _ (by exact rfl) vZ.m Zt (Zv)) af))) (Y2 (Y4 (bE K) T.aP PyProof.Rows.Boot.«isinstance» (Y2 (pv 0) (Y2 (@c6 _ _ (.ref _) _ _ (by exact rfl) dz.m Zt (Zv)) af))) (Y2 (Y4 (bE K) T.aP PyProof.Rows.Boot.«isinstance» (Y2 (pv 0) (Y2 (@c6 _ _ (.ref _) _ _ (by exact rfl) oF.m Zt (Zv)) af))) (Y2 (Y4 (bE K) T.aP PyProof.Rows.Boot.«isinstance» (Y2 (pv 0) (Y2 (@c6 _ _ (.ref _) _ _ (by exact rfl) jf.m Zt (Zv)) af))) af))))))) (Zf (Y3 (1) cW.nd (Za pH (pv 1) (@bS _ _ _ _ (Y2 (Y4 (bE K) T.aP PyProof.Rows.Boot.«isinstance» (Y2 (pv 0) (Y2 (@c6 _ _ (.ref _) _ _ (by exact rfl) l'.m Zt (Zv)) af))) (Y2 (Y4 (bE K) T.aP PyProof.Rows.Boot.«isinstance» (Y2 (pv 0) (Y2 (@c6 _ _ (.ref _) _ _ (by exact rfl) jg.m Zt (Zv)) af))) af))))) (Zf (Y3 (2) cW.nd (@bS _ _ _ _ (Y2 bb (Y2 bb (Y2 bb (Y2 bb (Y2 bb (Y2 bb (Y2 bb (Y2 bb (Y2 bb (Y2 bb (Y2 bb af))))))))))))) (Zf (Y3 (2) cW.nd (Za pH (pv 2) (@bS _ _ _ _ (Y2 bb (Y2 bb (Y2 bb af)))))) (Zf (Y3 (3) cW.nd (@pD _ _ _ _ _ _ _ (@ir _ _ _ _ _ _ _ _ jD (Zc K PySem.F.plainAttrs_list PySem.F.slot_list_count PySem.F.type_list_count Dj (pv 1) (Y2 eE af)) aq (aY _)) (@pC _ _ _ _ _ (Y4 (bE K) T.aP PyProof.Rows.Boot.«isinstance» (Y2 (pv 0) (Y2 (@i5 _ _ (.ty "ValueError") _ _ (by exact rfl) T.vw PyProof.Rows.Boot.«ValueError» Zt (Zv) (Zv)) af)))))) (Zg (@aQ _ _ _ _ (Y8 (aG K) (Za pH (pv 2) (@bS _ _ _ _ (Y2 bb af))) (@kO _ _ _ _ _ _ _ _ (@bQ _ _ _ (pv 3) (by intro _;rfl)) (Zc K PySem.F.plainAttrs_list PySem.F.slot_list_index PySem.F.type_list_index Dk (pv 1) (Y2 eE af)) aq))))))))))),?_⟩;refine⟨fun σ H1=>∃pf,σ=[sR x,sR pf,none,none]∧H1 pf=some (.lst [.bl (decide (0=j)), .bl (decide (1=j)), .bl (decide (2=j)), .bl (decide (3=j))])∧ar H H1,?_,?_⟩
  ·exact⟨_,rfl,x,C,_,_,_,rfl,hx,hE,rfl,fit 0 _ rfl,_,rfl,x,C,_,_,_,rfl,hx,hE,rfl,fit 1 _ rfl,_,rfl,x,C,_,_,_,rfl,hx,hE,rfl,fit 2 _ rfl,_,rfl,x,C,_,_,_,rfl,hx,hE,rfl,fit 3 _ rfl,ax Zr,fun p1 Fn=>⟨p1,rfl,ae,ar.upd Fn⟩⟩
  rintro σ H1 ⟨p1,rfl,X6,s1⟩;have kW:=s1 _ _ hx;refine⟨fun σ H2=>∃pf,σ=[sR x,sR pf,none,none]∧H2 pf=some (.lst [.bl (decide (0=j)), .bl (decide (1=j)), .bl (decide (2=j)), .bl (decide (3=j)), .bl (decide (4=j)), .bl (decide (5=j)), .bl (decide (6=j)), .bl (decide (7=j))])∧ar H H2,?_,?_⟩
  ·refine⟨_,rfl,_,rfl,x,C,_,_,_,rfl,kW,hE,rfl,fit 4 _ rfl,_,rfl,x,C,_,_,_,rfl,kW,hE,rfl,fit 5 _ rfl,_,rfl,x,C,_,_,_,rfl,kW,hE,rfl,fit 6 _ rfl,_,rfl,x,C,_,_,_,rfl,kW,hE,rfl,fit 7 _ rfl,ax Zr,fun pn Cp=>⟨p1,pn,_,_,rfl,rfl,ar.upd Cp _ _ X6,ae,ax Zr,fun p3 Eb=>⟨p3,rfl,ae,?_⟩⟩⟩;exact s1.trans ((ar.upd Cp).trans (ar.upd Eb))
  rintro σ H2 ⟨p2,rfl,Ly,s2⟩;have Bo:=s2 _ _ hx;refine⟨fun σ H3=>∃pf,σ=[sR x,sR pf,none,none]∧H3 pf=some (.lst [.bl (decide (0=j)), .bl (decide (1=j)), .bl (decide (2=j)), .bl (decide (3=j)), .bl (decide (4=j)), .bl (decide (5=j)), .bl (decide (6=j)), .bl (decide (7=j)), .bl (decide (8=j)), .bl (decide (9=j)), .bl (decide (10=j)), .bl (decide (11=j))])∧ar H H3,?_,?_⟩
  ·refine⟨_,rfl,_,rfl,x,C,_,_,_,rfl,Bo,hE,rfl,fit 8 _ rfl,_,rfl,x,C,_,_,_,rfl,Bo,hE,rfl,fit 9 _ rfl,_,rfl,x,C,_,_,_,rfl,Bo,hE,rfl,fit 10 _ rfl,_,rfl,x,C,_,_,_,rfl,Bo,hE,rfl,fit 11 _ rfl,ax Zr,fun pn Cp=>⟨p2,pn,_,_,rfl,rfl,ar.upd Cp _ _ Ly,ae,ax Zr,fun p3 Eb=>⟨p3,rfl,ae,?_⟩⟩⟩;exact s2.trans ((ar.upd Cp).trans (ar.upd Eb))
  rintro σ H3 ⟨p3,rfl,RF,s3⟩;have Hf:=s3 _ _ hx;refine⟨fun σ H4=>∃pf,σ=[sR x,sR pf,none,none]∧H4 pf=some (.lst [.bl (decide (0=j)), .bl (decide (1=j)), .bl (decide (2=j)), .bl (decide (3=j)), .bl (decide (4=j)), .bl (decide (5=j)), .bl (decide (6=j)), .bl (decide (7=j)), .bl (decide (8=j)), .bl (decide (9=j)), .bl (decide (10=j)), .bl (decide (11=j)), .bl (decide (12=j)), .bl (decide (13=j))])∧ar H H4,?_,?_⟩
  ·refine⟨_,rfl,_,rfl,x,C,_,_,_,rfl,Hf,hE,rfl,fit 12 _ rfl,_,rfl,x,C,_,_,_,rfl,Hf,hE,rfl,fit 13 _ rfl,ax Zr,fun pn Cp=>⟨p3,pn,_,_,rfl,rfl,ar.upd Cp _ _ RF,ae,ax Zr,fun p3 Eb=>⟨p3,rfl,ae,?_⟩⟩⟩;exact s3.trans ((ar.upd Cp).trans (ar.upd Eb))
  rintro σ H4 ⟨p4,rfl,U',s4⟩;have YX:=s4 _ _ hx;refine⟨fun σ H5=>∃pt,σ=[sR x,sR p4,sR pt,none]∧H5 p4=some (.lst (fl j))∧H5 pt=some (.lst [.str "word", .str "book", .str "terms", .str "near", .str "way", .str "name", .str "year", .str "taken", .str "full", .str "many", .str "no book"])∧ar H H5,?_,?_⟩
  ·exact⟨ax Zr,fun p hp=>⟨p,rfl,by rw[ai (aA U' hp)];exact U',ae,s4.trans (ar.upd hp)⟩⟩
  rintro σ H5 ⟨p5,rfl,X7,PX,s5⟩;refine⟨fun σ H6=>∃pt,σ=[sR x,sR p4,sR pt,none]∧H6 p4=some (.lst (fl j))∧H6 pt=some (.lst [.str "word", .str "book", .str "terms", .str "near", .str "way", .str "name", .str "year", .str "taken", .str "full", .str "many", .str "no book", .str "no finding", .str "left", .str "search"])∧ar H H6,?_,?_⟩
  ·refine⟨_,rfl,ax Zr,fun pn Cp=>⟨p5,pn,_,_,rfl,rfl,ar.upd Cp _ _ PX,ae,ax Zr,fun p3 Eb=>⟨p3,rfl,?_,ae,s5.trans ((ar.upd Cp).trans (ar.upd Eb))⟩⟩⟩;exact ar.upd Eb _ _ (ar.upd Cp _ _ X7)
  rintro σ H6 ⟨p6,rfl,PY,X8,s6⟩;have PU:=s6 _ _ hx;refine⟨fun σ H7=>σ=[sR x,sR p4,sR p6,some (.bl true)]∧H7=H6,?_,?_⟩
  ·refine⟨_,rfl, .inl ⟨rfl,_, .of PY⟩,p4,fl j,_,rfl,rfl,PY,rfl,Ae j,rfl,_,rfl,?_⟩;rw[Dr hj];refine jH ?_;exact⟨_,rfl,x,C,_,_,_,rfl,PU,hE,rfl,SJ,rfl,rfl⟩
  rintro σ H7 ⟨rfl,rfl⟩;refine⟨_,rfl,ax Zr,fun p hp=>⟨p6,p,_,_,rfl,rfl,ar.upd hp _ _ X8,ae,ax Zr,fun p7 SK=>⟨_,rfl,_,rfl,?_⟩⟩⟩;refine jH ?_;refine⟨_,rfl, .inl ⟨rfl,_, .of (ar.upd SK _ _ (ar.upd hp _ _ PY))⟩,p4,fl j,_,j,rfl,rfl,ar.upd SK _ _ (ar.upd hp _ _ PY),rfl,Ae j,Na hj,Nb hj,?_⟩;exact⟨p7,_,_,_,rfl,rfl, .of ae,Gi hj,q _ (s6.trans ((ar.upd hp).trans (ar.upd SK)))⟩
variable(cX:cK P w K mg base true 2 "_law_pairs" ["_law_found"] pL)
theorem kE:aJ ["_law_found","_law_told"] ["_law_found"] (ao fZ):=iV
include T Fc a_ cX in
theorem qU{f:Addr}{fd:FuncData}(F:lO K "_law_finding" "_law_finding" fZ f fd):bf P w K mg base (dD P w) true 3 f fd ["_law_found"] (sO ay):=by
 refine F.iL kE Zs iW
 ·obtain⟨y,P,d,dy,wy,rw,pr,kL,iP,rfl,_⟩:=h;rfl
 ·obtain⟨y,P,d,dy,wy,i7,pr,kL,iP,rfl,F,hl,dE,q⟩:=h;have hu:=hr.units;have Pu:(A.deeper (PyProof.Rows.envOfC "_law_finding" (ao fZ) s.heap.objs.size f gw)).units<cLine:=by lia
  refine⟨_,(Zn (Zm (@PW.pt _ _ _ (@pw_or _ _ _ _ _ _ _ (@cM _ _ _ _ (@bQ _ _ _ (Y5 a_ aV (Y2 (Y7 K (pv 0)) af)) (by intro _;rfl))) (@pw_or _ _ _ _ _ _ _ (@cM _ _ _ _ (@bQ _ _ _ (Y5 cX aV (Y2 (Y7 K (pv 0)) af)) (by intro _;rfl))) (@pw_or1 _ _ _ _ (@cM _ _ _ _ (@bQ _ _ _ (Y5 cX aV (Y2 (Y7 K (pv 0)) af)) (by intro _;rfl))))))) (Zg (@aQ _ _ _ _ eE)) aR) (Zn (Zm (@PW.pt _ _ _ (@pw_or _ _ _ _ _ _ _ (@cM _ _ _ _ (@bQ _ _ _ (Y4 (gE K) T.aP PyProof.Rows.Boot.«isinstance» (Y2 (Y7 K (pv 0)) (Y2 (@i5 _ _ (.ty "list") _ _ (by exact rfl) T.r6 PyProof.Rows.Boot.«list» Zt (Zv) (Zv)) af))) (by intro _;rfl))) (@pw_or _ _ _ _ _ _ _ (@aZ _ _ _ _ _ _ _ _ rL (Y4 (aK K) T.d6 PyProof.Rows.Boot.«len» (Y2 (Y7 K (pv 0)) af)) (Y4 (aK K) T.d6 PyProof.Rows.Boot.«len» (Y2 (Y7 K (pv 0)) af)) (aY _)) (@pw_or1 _ _ _ _ (@aZ _ _ _ _ _ _ _ _ (xr K Pu) (Y7 K (pv 0)) (@bS _ _ _ _ af) (aY _)))))) (Zg (@aQ _ _ _ _ eE)) aR) (Zn (@dI _ _ _ _ _ _ _ _ hX.own Zt (@cj _ K _ _ _ (Y7 K (pv 0)) (Zw)) (Y6 (1) kE.nd (Or.inl rfl)) (Zg (Zm (@cM _ _ _ _ (@bQ _ _ _ (Y5 a_ aV (Y2 (pv 1) af)) (by intro _;rfl))) (Zg (@aQ _ _ _ _ eE)) aR)) (by intro _;rfl)) (Zg (@aQ _ _ _ _ eE))))),?_⟩;have h1:kL≠[]:=fun z=>dE (List.length_eq_zero_iff.mp (by rw[←F.pw.1,z];rfl))
  refine⟨_,rfl,y,ay,dy,_,_,rfl,F.ob,Fc.cl,Fc.worth,n9 d.worth wy i7 pr,_,rfl,_,rfl,?_⟩;refine g6 ?_;refine⟨_,rfl,y,ay,dy,_,_,rfl,F.ob,Fc.cl,Fc.way,sk d.worth wy i7 pr,wy,kL,d.way,rfl,F.hw,F.pw,_,rfl,?_⟩;refine g6 ?_;refine⟨_,rfl,y,ay,dy,_,_,rfl,F.ob,Fc.cl,Fc.pairs,jM d.worth wy i7 pr,pr,iP,d.pairs,rfl,F.hp,F.pp,_,rfl,?_⟩;refine g6 ?_;refine⟨_,rfl,y,ay,dy,_,_,rfl,F.ob,Fc.cl,Fc.row,vP d.worth wy i7 pr,_,_,_,true,_,rfl,rfl, .lst F.hr,rfl,_,rfl,?_⟩;refine g6 ?_;refine⟨_,rfl,y,ay,dy,_,_,rfl,F.ob,Fc.cl,Fc.row,vP d.worth wy i7 pr,i7,_,rfl, .inl (.of F.hr),_,rfl,y,ay,dy,_,_,rfl,F.ob,Fc.cl,Fc.way,sk d.worth wy i7 pr,wy,_,rfl, .inl (.of F.hw),rfl,_,rfl,?_⟩;have h2:(d.row.map V.int).length=kL.length:=by rw[List.length_map,hl,F.pw.1]
  rw[h2];refine bB (fun hh=>absurd hh Zr) (fun _=>?_);refine⟨_,rfl,y,ay,dy,_,_,rfl,F.ob,Fc.cl,Fc.way,sk d.worth wy i7 pr,ax Zr,fun e he=>⟨wy,e,kL,[],fun _=>true,rfl,rfl, .of (ar.upd he _ _ F.hw), .of ae,(fun j x y _ h=>by simp at h),_,rfl,?_⟩⟩;refine bB (fun hh=>absurd hh (by simpa using h1)) (fun _=>?_);have s1:=ar.upd (o:= .lst []) he;generalize upd H e (.lst [])=H1 at s1;refine⟨_,rfl,y,ay,dy,_,_,rfl,s1 _ _ F.ob,Fc.cl,Fc.row,vP d.worth wy i7 pr,i7,rfl,⟨_, .of (s1 _ _ F.hr)⟩,?_⟩;refine eF (xs:=d.row.map V.int) (fun i σ H'=>(∃u,σ=[sR y,u])∧H'=H1) ⟨⟨_,rfl⟩,rfl⟩ ?_ ?_ ?_
  ·rintro i σ H' _ ⟨_,rfl⟩;exact .of (s1 _ _ F.hr)
  ·rintro i v σ H' hv ⟨⟨u,rfl⟩,rfl⟩;rw[List.getElem?_map]at hv;obtain⟨z,_,rfl⟩:=Option.map_eq_some_iff.mp hv;refine⟨_,rfl,_,rfl,_,rfl,?_⟩;refine g6 ?_;exact⟨⟨_,rfl⟩,rfl⟩
  ·rintro σ H' ⟨⟨u,rfl⟩,rfl⟩;exact q _ s1
theorem jh:aJ ["_law_told","_law_due","_law_k"] ["_law_told","_law_due"] (ao e6):=iV
include T Fc a_ cX in
theorem oG{f:Addr}{fd:FuncData}(F:lO K "_law_same_list" "_law_same_list" e6 f fd):bf P w K mg base (dD P w) true 3 f fd ["_law_told","_law_due"] (sP ay):=by
 refine F.iL jh Zs iW
 ·obtain⟨t,d,us,ws,es,P,rfl,_⟩:=h;rfl
 ·obtain⟨t,d0,us,ws,es,P,rfl,ht,FL,hd,D,hl,q⟩:=h;have hu:=hr.units;have hu:(A.deeper (PyProof.Rows.envOfC "_law_same_list" (ao e6) s.heap.objs.size f gw)).units+1<cLine:=by lia
  have e1:=FL.1;have e2:=D.1;rw[List.length_map]at e2;refine⟨_,(Zn (Zl (Zg (@aQ _ _ _ _ eE)) aR) (Zn (@dI _ _ _ _ _ _ _ _ hX.own Zt (@gC _ _ _ _ _ _ (by exact rfl) T.gN (Y2 (Y4 (aK K) T.d6 PyProof.Rows.Boot.«len» (Y2 (pv 1) af)) af) (Zw)) (Y6 (2) jh.nd (Or.inl rfl)) (Zn (Zm (@PW.pt _ _ _ (@pw_or _ _ _ _ _ _ _ (@cM _ _ _ _ (@bQ _ _ _ (Y5 a_ aV (Y2 (Y7 K (Y8 (aG K) (pv 0) (pv 2))) af)) (by intro _;rfl))) (@pw_or1 _ _ _ _ (@aZ _ _ _ _ _ _ _ _ rL (Y7 K (Y8 (aG K) (pv 0) (pv 2))) (Y8 (bN K) (Y8 (aG K) (pv 1) (pv 2)) aq) (aY _))))) (Zg (@aQ _ _ _ _ eE)) aR) (Zg (Zm (@PW.pt _ _ _ (@pw_or _ _ _ _ _ _ _ (@cM _ _ _ _ (@bQ _ _ _ (Y5 cX aV (Y2 (Y7 K (Y8 (aG K) (pv 0) (pv 2))) af)) (by intro _;rfl))) (@pw_or1 _ _ _ _ (@aZ _ _ _ _ _ _ _ _ (sQ K hu) (Y7 K (Y8 (aG K) (pv 0) (pv 2))) (Y8 (bN K) (Y8 (aG K) (pv 1) (pv 2)) aq) (aY _))))) (Zg (@aQ _ _ _ _ eE)) aR))) (by intro _;rfl)) (Zg (@aQ _ _ _ _ eE)))),?_⟩;refine⟨_,rfl,_,_,_,true,_,rfl,rfl, .lst ht,rfl,_,rfl,?_⟩;refine g6 ?_;refine⟨_,rfl,t,_,rfl, .inl (.of ht),_,rfl,d0,_,rfl, .inl (.of hd),rfl,_,rfl,?_⟩;refine bB (fun hh=>absurd hh (by simp;lia)) (fun _=>?_);refine⟨_,rfl,d0,_,rfl, .inl (.of hd),_,rfl,by lia,by lia,?_⟩;refine lL (fun i σ H'=>(∃u,σ=[sR t,sR d0,u])∧H'=H) ⟨⟨_,rfl⟩,rfl⟩ ?_ ?_
  ·rintro i σ H' hi ⟨⟨u,rfl⟩,rfl⟩;have hi:i<es.length:=by have:i<((ws.length:Nat):Int).toNat:=hi;lia
   have ei:es[i]?=some es[i]:=by simp[hi]
   generalize es[i]=d at ei;obtain⟨y,dy,wy,i7,pr,kL,iP,k1,F⟩:=FL.2 i d ei;obtain⟨tt,ll,X9,k2,k3,k4,P4⟩:=D.2 i (GY d) (by rw[List.getElem?_map,ei];rfl);have E2:∀{vs:List V}{v},vs[i]?=some v→tN vs (0+(i:Int))=some v:=fun{vs v} h=>by rw[Int.zero_add];exact aF h
   refine⟨_,rfl,_,rfl,t,_,_,_,rfl,rfl, .of ht,E2 k1,y,ay,dy,_,_,rfl,F.ob,Fc.cl,Fc.worth,n9 d.worth wy i7 pr,_,rfl,_,rfl,?_⟩;refine g6 ?_;refine⟨_,rfl,_,rfl,t,_,_,_,rfl,rfl, .of ht,E2 k1,y,ay,dy,_,_,rfl,F.ob,Fc.cl,Fc.worth,n9 d.worth wy i7 pr,_,rfl,_,rfl,d0,_,_,_,rfl,rfl, .of hd,E2 k2,tt,_,0,_,rfl,rfl, .of k3,aF (j:=0) rfl,rfl,_,rfl,?_⟩;refine bB (fun hh=>absurd hh (by simp[GY])) (fun _=>?_);refine⟨_,rfl,_,rfl,t,_,_,_,rfl,rfl, .of ht,E2 k1,y,ay,dy,_,_,rfl,F.ob,Fc.cl,Fc.pairs,jM d.worth wy i7 pr,pr,iP,d.pairs,rfl,F.hp,F.pp,_,rfl,?_⟩;refine g6 ?_;refine⟨_,rfl,_,rfl,t,_,_,_,rfl,rfl, .of ht,E2 k1,y,ay,dy,_,_,rfl,F.ob,Fc.cl,Fc.pairs,jM d.worth wy i7 pr,_,rfl,_,rfl,d0,_,_,_,rfl,rfl, .of hd,E2 k2,tt,_,1,_,rfl,rfl, .of k3,aF (j:=1) rfl,pr,ll,iP,X9,d.pairs,rfl,rfl, .of F.hp, .of k4,F.pp,P4,_,rfl,?_⟩;refine g6 ?_;exact⟨⟨_,rfl⟩,rfl⟩
  ·rintro σ H' ⟨⟨u,rfl⟩,rfl⟩;exact q
theorem gf:aJ ["_law_many","_law_others","_law_same","_law_least","_law_found","_law_start","_law_size"] ["_law_many","_law_others","_law_same","_law_least"] (ao cC):=iV
include T fj in
theorem s_{f:Addr}{fd:FuncData}(F:lO K "_law_slants" "_law_slants" cC f fd):bf P w K mg base (dD P w) true 2 f fd ["_law_many","_law_others","_law_same","_law_least"] p0:=by
 refine F.iL gf Zs iW
 ·obtain⟨n,m,S,L,rfl,_⟩:=h;rfl
 ·obtain⟨n,m,S,L,rfl,hn,hm,YY,PZ,q⟩:=h;have hu:=hr.units;have X_:(A.deeper (PyProof.Rows.envOfC "_law_slants" (ao cC) s.heap.objs.size f gw)).units+6<cLine:=by lia
  refine⟨_,(Zf (Y3 (4) gf.nd (@bS _ _ _ _ af)) (Zf (@dI _ _ _ _ _ _ _ _ hX.own Zt (@cj _ K _ _ _ (Za pH (@gM _ _ _ _ _ _ _ _ _ _ _ _ _ _ (by exact rfl) (show ba ["_law_many","_law_others","_law_same","_law_least","_law_found","_law_start","_law_size"] (ao cC) _ ["_law_k"] [] []from AS) (@gC _ _ _ _ _ _ (by exact rfl) T.gN (Y2 (pv 0) af) (Zw)) (fun _ _ _ _ _=>(Y6 (0) (show(["_law_k"]:List Str).Nodup by decide+kernel) (Or.inl rfl))) (fun _ _ _ _ _=>fq) (fun _ _ _ _ _=>(@e_ _ _ _ _ _ (Y2 (pv 0) (Y2 aq af)))) (by intro _;rfl)) (@gM _ _ _ _ _ _ _ _ _ _ _ _ _ _ (by exact rfl) (show ba ["_law_many","_law_others","_law_same","_law_least","_law_found","_law_start","_law_size"] (ao cC) _ ["_law_k"] [] []from AS) (@A7 _ _ _ _ _ _ _ (by exact rfl) T.gN (Y2 aq (Y2 (pv 1) af)) (Zw) (Zw)) (fun _ _ _ _ _=>(Y6 (0) (show(["_law_k"]:List Str).Nodup by decide+kernel) (Or.inl rfl))) (fun _ _ _ _ _=>fq) (fun _ _ _ _ _=>(@e_ _ _ _ _ _ (Y2 aq (Y2 (pv 0) af)))) (by intro _;rfl))) (Zw)) (Y6 (5) gf.nd (Or.inr rfl)) (Zf (Y3 (6) gf.nd (Y4 (A_ rfl) T.M7 PyProof.Rows.Boot.«min» (Y2 (Za cG (pv 0) (Y8 (bN K) (pv 5) aq)) (Y2 (Za cG (pv 1) (Y8 (bN K) (pv 5) aq)) af)))) (Zg (Zm (@PW.pt _ _ _ (@pw_and _ _ _ _ _ _ _ (@aZ _ _ _ _ _ _ _ _ qy (pv 6) aq (aY _)) (@pw_and1 _ _ _ _ (@aZ _ _ _ _ _ _ _ _ Hz (Za kQ (pv 6) (pv 2)) (pv 3) (aY _))))) (Zg (@bg _ _ _ _ (Zc K PySem.F.plainAttrs_list PySem.F.slot_list_append PySem.F.type_list_append dh (pv 4) (Y2 (@e_ _ _ _ _ _ (Y2 (Za cG aq (pv 6)) (Y2 (@gM _ _ _ _ _ _ _ _ _ _ _ _ _ _ (by exact rfl) (show ba ["_law_many","_law_others","_law_same","_law_least","_law_found","_law_start","_law_size"] (ao cC) _ ["_law_k"] [5] ["_law_start"]from AS) (@gC _ _ _ _ _ _ (by exact rfl) T.gN (Y2 (pv 6) af) (Zw)) (fun _ _ _ _ _=>(Y6 (0) (show(["_law_k","_law_start"]:List Str).Nodup by decide+kernel) (Or.inl rfl))) (fun _ _ _ _ _=>fq) (fun _ _ _ _ _=>(@e_ _ _ _ _ _ (Y2 (Za c_ (Y8 (bN K) (pv 1) aq) (pv 0)) (Y2 (Za c_ (Y8 (bN K) (pv 1) aq) (pv 0)) af)))) (by intro _;rfl)) af))) af)) (Zw))) aR))) (by intro _;rfl)) (Zg (@aQ _ _ _ _ (@gM _ _ _ _ _ _ _ _ _ _ _ _ _ _ (by exact rfl) (show ba ["_law_many","_law_others","_law_same","_law_least","_law_found","_law_start","_law_size"] (ao cC) _ ["_law_size","_law_slant"] [2] ["_law_same"]from AS) (@cj _ K _ _ _ (Y4 (ZV K X_) fj PyProof.Rows.Boot.«sorted» (Y2 (pv 4) af)) (Zw)) (fun _ _ _ _ _=>(@i8 _ K _ _ _ (2) _ (by exact rfl) (@cc _ _ _ _ _ (Y6 (0) (show(["_law_size","_law_slant","_law_same"]:List Str).Nodup by decide+kernel) (Or.inl rfl)) (@cc _ _ _ _ _ (Y6 (1) (show(["_law_size","_law_slant","_law_same"]:List Str).Nodup by decide+kernel) (Or.inl rfl)) i6 (Zw)) (Zw)) (Zw) (Zw) (Zw))) (fun _ _ _ _ _=>fq) (fun _ _ _ _ _=>(@e_ _ _ _ _ _ (Y2 (Za cG aq (Za kQ (pv 0) (pv 2))) (Y2 (pv 1) af)))) (by intro _;rfl)))))),?_⟩;refine⟨fun σ H1=>∃F,σ=[sI n,sI m,sI S,sI L,sR F,none,none]∧ar H H1∧H F=none∧H1 F=some (.lst []),⟨ax Zr,fun F hF=>⟨F,rfl,ar.upd hF,hF,ae⟩⟩,?_⟩;rintro σ H1 ⟨F,rfl,s1,hF,Va⟩;refine⟨fun σ H2=>∃(fs:List V)(u1 u2:Option V),σ=[sI n,sI m,sI S,sI L,sR F,u1,u2]∧ar H H2∧H2 F=some (.lst fs)∧tY H2 fs (qO n m S L),?_,?_⟩
  ·refine⟨_,rfl,n,rfl,by lia,by lia,fun D1 u0=>?_⟩;refine j4 (fun i ys a7 H'=>(∃u,a7=[u])∧H' D1=some (.lst ys)∧ar H1 H'∧fO H' ys ((List.range i).map fun k:Nat=>((k:Int),(0:Int)))) ⟨⟨_,rfl⟩,ae,ar.upd u0, .nil⟩ ?_ ?_
   ·rintro i ys a7 H' hi ⟨⟨u,rfl⟩,Fv,s2,P⟩;have hi:i<n:=by lia
    have pl:=P.1;rw[List.length_map,List.length_range]at pl;refine kY ?_;refine⟨_,rfl,ax Zr,fun p hp=>?_⟩;have sp:=ar.upd (o:= .tup [.int (0+(i:Int)), .int 0]) hp;refine⟨sp _ _ Fv,bh Zq,⟨_,rfl⟩,ae,(s2.trans sp).fA u0,?_⟩;rw[List.range_succ,List.map_append];exact((P.same sp).snoc (f:=((i:Int),0)) (by rw[ae,Int.zero_add];rfl)).cw (dR.lst (sp _ _ Fv))
   rintro K_ a7 H2 ⟨_,mG,s2,P1⟩;rw[show((n:Nat):Int).toNat=n by lia]at P1;refine⟨_,rfl,1,m,rfl,⟨by lia,by lia,by lia,by lia⟩,fun D2 Ot=>?_⟩;refine j4 (fun i ys a7 H'=>(∃u,a7=[u])∧H' D2=some (.lst ys)∧ar H2 H'∧fO H' ys ((List.range i).map fun k:Nat=>((0:Int),(1:Int)+(k:Int)))) ⟨⟨_,rfl⟩,ae,ar.upd Ot, .nil⟩ ?_ ?_
   ·rintro i ys a7 H' hi ⟨⟨u,rfl⟩,Fv,s3,P⟩;have hi:i<m:=by lia
    have pl:=P.1;rw[List.length_map,List.length_range]at pl;refine kY ?_;refine⟨_,rfl,ax Zr,fun p hp=>?_⟩;have sp:=ar.upd (o:= .tup [.int 0, .int (1+(i:Int))]) hp;refine⟨sp _ _ Fv,bh Zq,⟨_,rfl⟩,ae,(s3.trans sp).fA Ot,?_⟩;rw[List.range_succ,List.map_append];exact((P.same sp).snoc (f:=(0,1+(i:Int))) ae).cw (dR.lst (sp _ _ Fv))
   rintro Fu a7 H3 ⟨_,Z0,s3,P2⟩;rw[show((m:Int)-1).toNat=m-1 by lia]at P2;have X':=P1.1;have JV:=P2.1;rw[List.length_map,List.length_range]at X' JV;refine⟨D1,D2,_,_,rfl,rfl,s3 _ _ mG,Z0,ax Zq,fun D3 Hq=>⟨D3,rfl,⟨_, .of ae⟩,?_⟩⟩;have s4:=ar.upd (o:= .lst (K_++Fu)) Hq;have PA:fO (upd H3 D3 (.lst (K_++Fu))) (K_++Fu) (bZ n m):=((P1.same s3).append P2).same s4;have Vc:=(s2.trans s3).trans s4;have SM:=Vc _ _ Va;have Yb:F≠D3:=fun e=>by rw[←e]at Hq;rw[(s2.trans s3) _ _ Va]at Hq;cases Hq
   have sA:=s1.trans Vc;have Ve:upd H3 D3 (.lst (K_++Fu)) D3=some (.lst (K_++Fu)):=ae;generalize upd H3 D3 (.lst (K_++Fu))=H4 at PA SM sA Ve;have Yc:∀{b:Addr}{v:List V},H4 b=some (.tup v)→b≠F:=fun{b v} h e=>by rw[e,SM]at h;cases h
   refine eF (xs:=K_++Fu) (fun i σ H'=>∃(fs:List V)(u1 u2:Option V),σ=[sI n,sI m,sI S,sI L,sR F,u1,u2]∧(∀b o,b≠F→H4 b=some o→H' b=some o)∧H' F=some (.lst fs)∧kD H' F fs ((((bZ n m).take i).filter (hG n m S L)).map (qN n m))) ⟨[],_,_,rfl,fun _ _ _ h=>h,SM, .nil⟩ ?_ ?_ ?_
   ·rintro i σ H' _ ⟨_,_,_,_,kp,_⟩;exact .of (kp _ _ (Ne.symm Yb) Ve)
   ·rintro i v σ H' hv ⟨fs,u1,u2,rfl,kp,K',DN⟩;have hi:i<(bZ n m).length:=by rw[←PA.1];exact(Y' hv).1
    have ei:(bZ n m)[i]?=some (bZ n m)[i]:=by simp[hi]
    generalize (bZ n m)[i]=st at ei;obtain⟨tt,g1,g2⟩:=PA.2 i st ei;rw[hv]at g1;cases g1;have ht:=kp _ _ (Yc g2) g2;have is:=ka.1 (Zd ei);have et:(bZ n m).take (i+1)=(bZ n m).take i++[st]:=by rw[List.take_succ,ei];rfl
    have dl:=DN.1;have Vf:(((bZ n m).take i).filter (hG n m S L)).length≤n+m:=by
     refine Nat.le_trans (List.length_filter_le _ _) ?_;rw[List.length_take];have:=PA.1;rw[List.length_append]at this
     lia
    rw[List.length_map]at dl;have ez:(if (m:Int)-st.2<(n:Int)-st.1 then(m:Int)-st.2 else(n:Int)-st.1)=min ((n:Int)-st.1) ((m:Int)-st.2):=by split<;>lia
    refine⟨fun σ LD=>σ=[sI n,sI m,sI S,sI L,sR F,sR tt,sI ((min ((n:Int)-st.1) ((m:Int)-st.2)))]∧LD=H',⟨_,rfl,_,rfl,tt,_,0,_,rfl,rfl, .of ht,aF (j:=0) rfl,_,_,rfl,rfl,_,rfl,_,rfl,tt,_,1,_,rfl,rfl, .of ht,aF (j:=1) rfl,_,_,rfl,rfl,_,_,rfl,by rw[ez];rfl,rfl⟩,?_⟩;rintro σ H' ⟨rfl,rfl⟩;have YZ:(dq n m st:Int)=max 0 (min ((n:Int)-st.1) ((m:Int)-st.2)):=by unfold dq;lia
    have b1:min ((n:Int)-st.1) ((m:Int)-st.2)≤100:=by unfold lh at is;lia
    have skip:hG n m S L st=false→(((bZ n m).take (i+1)).filter (hG n m S L)).map (qN n m)=(((bZ n m).take i).filter (hG n m S L)).map (qN n m):=fun h=>by
     rw[et,List.filter_append,List.filter_cons,Ze (by rw[h];decide)];simp
    refine⟨_,rfl,_,_,rfl,rfl,_,rfl,?_⟩;refine bB (fun h1=>?_) (fun h1=>?_)
    rotate_left
    ·refine g6 ⟨fs,_,_,rfl,kp,K',?_⟩;rw[skip (by
      have h1:¬0<min ((n:Int)-st.1) ((m:Int)-st.2):=by simpa using h1
      unfold hG;rw[decide_eq_false Zq];rfl)]
     exact DN
    have h1:0<min ((n:Int)-st.1) ((m:Int)-st.2):=by simpa using h1
    have SN:min ((n:Int)-st.1) ((m:Int)-st.2)=(dq n m st:Int):=by lia
    rw[SN]at b1⊢;have NZ:0<dq n m st:=by lia
    refine⟨_,rfl,_,rfl,_,_,rfl,rfl, .inr ⟨by lia,by lia⟩,_,rfl,_,_,rfl,rfl,_,rfl,?_⟩;refine bB (fun h2=>?_) (fun h2=>?_)
    rotate_left
    ·refine⟨fs,_,_,rfl,kp,K',?_⟩;rw[skip (by
      have h2:¬L≤(dq n m st:Int)*S:=by simpa using h2
      unfold hG;rw[Int.mul_comm,decide_eq_false (p:=L≤_) h2,Bool.and_false])]
     exact DN
    have h2:L≤(dq n m st:Int)*S:=by simpa using h2
    refine⟨_,rfl, .inl ⟨rfl,_, .of K'⟩,_,rfl,_,_,rfl,rfl,_,rfl,(dq n m st:Int),rfl,by lia,by lia,fun D4 E6=>?_⟩;refine j4 (fun j ys fm H5=>(∃u,fm=[u,sR tt])∧H5 D4=some (.lst ys)∧ar H' H5∧fO H5 ys (eX st.1 st.2 j)) ⟨⟨_,rfl⟩,ae,ar.upd E6, .nil⟩ ?_ ?_
    ·rintro j ys fm H5 hj ⟨⟨u,rfl⟩,Hk,s5,P⟩;have hj:j<dq n m st:=by lia
     have pl:=P.1;rw[om]at pl;have PX:=s5 _ _ ht;refine kY ?_;refine⟨_,rfl,tt,_,0,_,rfl,rfl, .of PX,aF (j:=0) rfl,_,rfl,_,_,rfl,rfl,_,rfl,tt,_,1,_,rfl,rfl, .of PX,aF (j:=1) rfl,_,rfl,_,_,rfl,rfl,ax Zr,fun p hp=>?_⟩;have sp:=ar.upd (o:= .tup [.int (st.1+(0+(j:Int))), .int (st.2+(0+(j:Int)))]) hp;refine⟨sp _ _ Hk,bh Zq,⟨_,rfl⟩,ae,(s5.trans sp).fA E6,?_⟩;rw[xT];exact((P.same sp).snoc (f:=(st.1+(j:Int),st.2+(j:Int))) (by rw[ae,Int.zero_add];rfl)).cw (dR.lst (sp _ _ Hk))
    ·rintro ys fm H5 ⟨_,Hk,s5,P⟩;rw[show((dq n m st:Nat):Int).toNat=dq n m st by lia]at P;refine⟨ax Zr,fun p hp=>?_⟩;have sp:=ar.upd (o:= .tup [.int (0-(dq n m st:Int)), .ref D4]) hp;have P0:=s5.trans sp;have Vg:=P0 _ _ K';have nD:D4≠F:=fun e=>by rw[e,K']at E6;cases E6
     refine⟨F,fs,_,rfl,rfl,Vg,bh Zq,fs++[.ref p],_,_,rfl,fun b o hb e=>by rw[ai hb];exact P0 _ _ (kp b o hb e),ae,?_⟩;have e9:(((bZ n m).take (i+1)).filter (hG n m S L)).map (qN n m)=(((bZ n m).take i).filter (hG n m S L)).map (qN n m)++[qN n m st]:=by
      have hc:hG n m S L st=true:=by
       unfold hG;rw[decide_eq_true NZ,Int.mul_comm,decide_eq_true h2];rfl
      rw[et,List.filter_append,List.filter_cons,Zi hc,List.map_append];rfl
     rw[e9];have D2:=(DN.keep (fun b o _ e=>P0 b o e) (dR.same P0)).snoc (x:=qN n m st) (t:=p) (l:=D4) (us:=ys) ae (sp _ _ Hk) (P.same sp) nD;exact D2.keep (fun b o hb e=>by rw[ai hb];exact e) (dR.lst Vg)
   ·rintro σ H' ⟨fs,u1,u2,rfl,kp,K',DN⟩;have pl:=PA.1;rw[pl,List.take_length]at DN;exact⟨fs,u1,u2,rfl,fun b o e=>kp b o (fun z=>by rw[z,hF]at e;cases e) (sA _ _ e),K',DN.NQ⟩
  rintro σ H2 ⟨fs,u1,u2,rfl,s2,Yd,DU⟩;obtain⟨f1,f2⟩:=Zy n m S L;have dl:=EY n m S L;refine⟨_,rfl,F,fs,qO n m S L,rfl, .of Yd,DU,f1,f2,by lia,fun Z ys ls hZ DZ pm sr=>?_⟩;have s3:=ar.upd (o:= .lst ys) hZ;have DZ:=DZ.keep s3;have SO:upd H2 Z (.lst ys) Z=some (.lst ys):=ae;generalize upd H2 Z (.lst ys)=H3 at s3 DZ SO;have ll:=pm.length_eq;have yl:=DZ.1;refine⟨Z,rfl,⟨_, .of SO⟩,fun D hD=>?_⟩;refine iF (xs:=ys) (fun i zs a7 H'=>(∃u1 u2,a7=[u1,u2,sI S])∧H' D=some (.lst zs)∧ar H3 H'∧kD H' D zs ((ls.take i).map fun k=>((0-k.1)*S,k.2))) ⟨⟨_,_,rfl⟩,ae,ar.upd hD, .nil⟩ ?_ ?_ ?_
  ·rintro i zs a7 H' _ ⟨_,_,s4,_⟩;exact .of (s4 _ _ SO)
  ·rintro i v zs a7 H' hv ⟨⟨u1,u2,rfl⟩,Fv,s4,DN⟩;have hi:i<ls.length:=by rw[←yl];exact(Y' hv).1
   have ei:ls[i]?=some ls[i]:=by simp[hi]
   generalize ls[i]=k at ei;obtain⟨t,l,us,a1,a2,a3,P⟩:=DZ.2 i k ei;rw[hv]at a1;cases a1;have et:ls.take (i+1)=ls.take i++[k]:=by rw[List.take_succ,ei];rfl
   have Vf:=DN.1;rw[List.length_map,List.length_take]at Vf;have RA:=s4 _ _ a3;refine⟨t,_,rfl, .of (s4 _ _ a2),rfl,_,_,rfl,_,_,rfl,rfl,?_⟩;refine rn ?_;refine⟨_,rfl,_,rfl,_,_,rfl,rfl, .inr ⟨by lia,by lia⟩,_,_,rfl,rfl,_,rfl,ax Zr,fun p hp=>?_⟩;have sp:=ar.upd (o:= .tup [.int (0-k.1*S), .ref l]) hp;have nl:l≠D:=fun e=>by
    have h9:=(ar.refl H3) _ _ a3;rw[e,hD]at h9;cases h9
   refine⟨sp _ _ Fv,bh Zq,⟨_,_,rfl⟩,ae,(s4.trans sp).fA hD,?_⟩;rw[et,List.map_append];have ek:(0-k.1)*S=0-k.1*S:=by rw[Int.sub_mul,Int.zero_mul]
   have D2:=(DN.keep (fun b o _ e=>sp b o e) (dR.same sp)).snoc (x:=((0-k.1)*S,k.2)) (t:=p) (l:=l) (us:=us) (by rw[ae,ek]) (sp _ _ RA) ((P.same s4).same sp) nl;exact D2.keep (fun b o hb e=>by rw[ai hb];exact e) (dR.lst (sp _ _ Fv))
  ·rintro zs a7 H' ⟨_,Fv,s4,DN⟩;rw[yl,List.take_length]at DN;exact q H' D zs ls ((s2.trans s3).trans s4) Fv DN.NQ pm sr
variable(ma:cK P w K mg base true 8 "compare" ["first","second","terms"] (vV aU ay aM))
variable(oH:mD P w K mg base true 5 "Terms" aU ["self","same","out","into","least","part","near"] [.int 50, .cn] (rq aU bK bF))
variable(bG:cK P w K mg base true 1 "_law_at" ["_law_script","_law_k"] (Dm K))
variable(ji:cK P w K mg base true 1 "_law_bank" ["_law_cell","_law_other","_law_many"] vF)
variable(kn:cK P w K mg base true 2 "_law_row" ["_law_found","_law_due"] yV)
variable(jj:cK P w K mg base false 1 "_law_kind" ["_law_e"] (vB K [fJ,fK,bK,bF,hJ,fL,fM,dF,lu,aM,hU,dG,fN,dH]))
variable(gh:cK P w K mg base true 3 "_law_finding" ["_law_found"] (sO ay))
variable(e7:cK P w K mg base true 3 "_law_same_list" ["_law_told","_law_due"] (sP ay))
variable(gX:cK P w K mg base true 2 "_law_slants" ["_law_many","_law_others","_law_same","_law_least"] p0)
variable(gi:Er K mg "QuoteError" f9)
variable(jk:Fits K aM [fJ,fK,bK,bF,hJ,fL,fM,dF,lu,aM,hU,dG,fN,dH] 9)
variable(ko:W.mroIn K aM (.ref f9)=some true)
theorem dA:aJ ["_law_script","_law_word","_law_sizes","_law_many","_law_others","_law_same","_law_out","_law_into","_law_size","_law_least","_law_due","_law_refused","_law_told","_law_e","_law_one"] ["_law_script"] (ao oq):=iV
include T Tc Fc dz ma oH bG ji kn jj gh e7 gX gi jk ko in
theorem Lb{f:Addr}{fd:FuncData}(F:lO K "law" "law" oq f fd):bf P w K mg base (dD P w) true 10 f fd ["_law_script"] (Ac K):=by
 refine F.iL dA Zs iW
 ·obtain⟨a,ns,rfl,_⟩:=h;rfl
 ·obtain⟨a,ns,rfl,hS,hlen,q⟩:=h;have hu:=hr.units;have hu:(A.deeper (PyProof.Rows.envOfC "law" (ao oq) s.heap.objs.size f gw)).units+1<cLine:=by lia
  have Pu:=Nat.lt_of_succ_lt hu;have md:∀(i j:Int),0<j→0≤i%j∧i%j<j:=fun i j h=>⟨Int.emod_nonneg _ (by lia),Int.emod_lt_of_pos _ h⟩
  refine⟨_,(Zf (Y3 (1) dA.nd (Y8 (aG K) (Y5 ji aV (Y2 (Y_ bG aV) (Y2 (Y_ bG aV) (Y2 aq af)))) aq)) (Zf (Y3 (2) dA.nd (@bS _ _ _ _ (Y2 (Zh cG aq) (Y2 (Zh cG aq) af)))) (Zf (Zm (@aZ _ _ _ _ _ _ _ _ jD (Y9 de aq) aq (aY _)) (Zg (Y3 (2) dA.nd (@bS _ _ _ _ (Y2 (Za c_ aq (Za de (Y8 (aG K) (pv 2) aq) aq)) (Y2 (Za c_ aq (Za de (Y8 (aG K) (pv 2) aq) aq)) af))))) aR) (Zf (Zm (@aZ _ _ _ _ _ _ _ _ jD (Y9 de aq) aq (aY _)) (Zg (Y3 (2) dA.nd (@bS _ _ _ _ (Y2 aq (Y2 (Za cG aq (Y8 (aG K) (pv 2) aq)) af))))) aR) (Zf (Y3 (3) dA.nd (Y8 (aG K) (pv 2) (Za de (Y9 j1 aq) aq))) (Zf (Y3 (4) dA.nd (Y8 (aG K) (pv 2) (Za cG aq (Za de (Y9 j1 aq) aq)))) (Zf (@aH _ _ (5) _ _ _ _ dA.nd Zt (Or.inr rfl) (Zh c_ aq) (Zw) (by exact .inl rfl)) (Zf (Y3 (6) dA.nd (Za c_ (Za kQ aq (pv 5)) (Y9 de (Za cG aq (Za kQ aq (pv 5)))))) (Zf (Y3 (7) dA.nd (Za c_ (Za kQ aq (pv 5)) (Y9 de (Za cG aq (Za kQ aq (pv 5)))))) (Zf (Y3 (8) dA.nd (Zh c_ aq)) (Zf (Zm (@aZ _ _ _ _ _ _ _ _ jD (Za de (Y9 j1 aq) aq) aq (aY _)) (Zg (Y3 (8) dA.nd aq)) aR) (Zf (Y3 (9) dA.nd (Y4 (A9 rfl) T.HR PyProof.Rows.Boot.«max» (Y2 aq (Y2 (Za cG (Zh c_ (Za kQ (pv 5) (pv 8))) aq) af)))) (Zf (Y3 (10) dA.nd (Y5 gX aV (Y2 (pv 3) (Y2 (pv 4) (Y2 (pv 5) (Y2 (pv 9) af)))))) (Zf (Y3 (11) dA.nd bb) (Zf (Y3 (12) dA.nd jY) (Zf (@JK _ _ _ _ _ _ _ (by exact rfl) (by exact rfl) (fun EE _ _ hp ho=>(Zg (Y3 (12) dA.nd (Y5 ma hp (Y2 (Za yN (@bS _ _ _ _ (Y2 (pv 1) af)) (pv 3)) (Y2 (Za yN (@bS _ _ _ _ (Y2 (pv 1) af)) (pv 4)) (Y2 (@rp _ _ _ _ _ _ _ _ _ _ _ _ _ _ oH (hr.mono (Zv)) hp (Y2 (pv 5) (Y2 (pv 6) (Y2 (pv 7) (Y2 (pv 9) af)))) (Zw) (Zv) (Zw) (Zw)) af))))))) (@MT _ _ _ _ _ _ _ _ _ _ _ (13) (by exact rfl) gi.m gi.e dA.nd Zt (by exact rfl) (fun _=>(Zg (Y3 (11) dA.nd (@aN _ _ _ _ _ _ _ _ _ _ _ _ jj ((hr.mark _).loose.mono (Zv)) aV (Y2 (pv 13) af) (Zw) (Zv) (Zw) (Zw))))) C7 (Zv))) (Zf (Zm (@PW.pt _ _ _ (@pw_or _ _ _ _ _ _ _ (@aZ _ _ _ _ _ _ _ _ qy (Y4 (aK K) T.d6 PyProof.Rows.Boot.«len» (Y2 (pv 10) af)) aq (aY _)) (@pw_or1 _ _ _ _ (@aZ _ _ _ _ _ _ _ _ rL (pv 11) bb (aY _))))) (Zg (@aQ _ _ _ _ (@pD _ _ _ _ _ _ _ (@ir _ _ _ _ _ _ _ _ qy (Y4 (aK K) T.d6 PyProof.Rows.Boot.«len» (Y2 (pv 10) af)) aq (aY _)) (@pC _ _ _ _ _ (@ir _ _ _ _ _ _ _ _ jD (pv 11) bb (aY _)))))) aR) (Zf (Zm (@cM _ _ _ _ (@bQ _ _ _ (Y5 e7 aV (Y2 (pv 12) (Y2 (pv 10) af))) (by intro _;rfl))) (Zg (@aQ _ _ _ _ eE)) aR) (Zf (@dI _ _ _ _ _ _ _ _ hX.own Zt (@cj _ K _ _ _ (pv 12) (Zw)) (Y6 (14) dA.nd (Or.inl rfl)) (Zf (Zm (@PW.pt _ _ _ (@pw_or _ _ _ _ _ _ _ (@cM _ _ _ _ (@bQ _ _ _ (Y5 gh aV (Y2 (pv 14) af)) (by intro _;rfl))) (@pw_or1 _ _ _ _ (@aZ _ _ _ _ _ _ _ _ (sQ K hu) (Y7 K (pv 14)) (Y7 K (pv 14)) (aY _))))) (Zg (@aQ _ _ _ _ eE)) aR) (Zg (Zm (@cM _ _ _ _ (@bQ _ _ _ (Y5 kn aV (Y2 (Y7 K (pv 14)) (Y2 (@gM _ _ _ _ _ _ _ _ _ _ _ _ _ _ (by exact rfl) (show ba ["_law_script","_law_word","_law_sizes","_law_many","_law_others","_law_same","_law_out","_law_into","_law_size","_law_least","_law_due","_law_refused","_law_told","_law_e","_law_one"] (ao oq) _ ["_law_k"] [5] ["_law_same"]from AS) (@gC _ _ _ _ _ _ (by exact rfl) T.gN (Y2 (Y4 (aK K) T.d6 PyProof.Rows.Boot.«len» (Y2 (Y7 K (pv 14)) af)) af) (Zw)) (fun _ _ _ _ _=>(Y6 (0) (show(["_law_k","_law_same"]:List Str).Nodup by decide+kernel) (Or.inl rfl))) (fun _ _ _ _ _=>fq) (fun _ _ _ _ _=>(Za kQ (pv 1) (Za c_ (pv 0) aq))) (by intro _;rfl)) af))) (by intro _;rfl))) (Zg (@aQ _ _ _ _ eE)) aR))) (by intro _;rfl)) (Zg (@aQ _ _ _ _ eE))))))))))))))))))))),?_⟩;refine⟨fun σ H1=>∃w:Str,σ=[sR a,sS w,none,none,none,none,none,none,none,none,none,none,none,none,none]∧ar H H1,?_,?_⟩
  ·exact⟨_,rfl,a,ns,0,rfl,hS,Zv,_,rfl,a,ns,1,rfl,hS,Zv,_,_,1,rfl,Zv,Zv,fun H' b zs s1 hb uZ hz hw hn=>⟨b,_,0,_,rfl,rfl, .of uZ,aF (j:=0) (show(zs.map V.str)[0]?=some (.str (zs.headD "")) by
    match zs,hz with
    |[z],_=>rfl),zs.headD "",rfl,s1⟩⟩
  rintro σ H1 ⟨w,rfl,s1⟩;have PZ:=s1.seq hS;refine⟨fun σ H2=>∃(sz:Addr)(x y:Int),σ=[sR a,sS w,sR sz,none,none,none,none,none,none,none,none,none,none,none,none]∧ar H1 H2∧H2 sz=some (.lst [.int x, .int y])∧(0≤x∧x≤8)∧0≤y∧y≤30,?_,?_⟩
  ·have m9:=md (cell ns 2) 9 (Zv);have Y0:=md (cell ns 3) 31 (Zv);exact⟨_,rfl,a,ns,2,rfl,PZ,Zv,_,_,rfl,rfl,(show(0:Int)<9 by decide),_,_,rfl,rfl,_,rfl,a,ns,3,rfl,PZ,Zv,_,_,rfl,rfl,(show(0:Int)<31 by decide),_,_,rfl,rfl,ax Zr,fun p hp=>⟨p,_,_,rfl,ar.upd hp,ae,⟨by lia,by lia⟩,by lia,by lia⟩⟩
  rintro σ H2 ⟨sz,x,y,rfl,s2,hsz,hx,hy⟩;have Vh:=s2.seq PZ;refine⟨fun σ H3=>∃(sz:Addr)(x y:Int),σ=[sR a,sS w,sR sz,none,none,none,none,none,none,none,none,none,none,none,none]∧ar H2 H3∧H3 sz=some (.lst [.int x, .int y])∧(0≤x∧x≤8)∧0≤y∧y≤30,?_,?_⟩
  ·refine⟨_,rfl,a,ns,4,rfl,Vh,Zv,_,_,rfl,rfl,(show(0:Int)<4 by decide),rfl,_,rfl,?_⟩;refine bB (fun _=>?_) (fun _=>⟨sz,x,y,rfl, .refl _,hsz,hx,hy⟩);have m3:=md x 3 (Zv);have m8:=md y 8 (Zv);exact⟨_,rfl,sz,_,0,_,rfl,rfl, .of hsz,aF (j:=0) rfl,_,_,rfl,rfl,(show(0:Int)<3 by decide),_,_,rfl,rfl,_,rfl,sz,_,1,_,rfl,rfl, .of hsz,aF (j:=1) rfl,_,_,rfl,rfl,(show(0:Int)<8 by decide),_,_,rfl,rfl,ax Zr,fun p hp=>⟨p,_,_,rfl,ar.upd hp,ae,⟨by lia,by lia⟩,by lia,by lia⟩⟩
  clear hx hy hsz x y sz;rintro σ H3 ⟨sz,x,y,rfl,s3,hsz,hx,hy⟩;have Vi:=s3.seq Vh;refine⟨fun σ H4=>∃(sz:Addr)(x y:Int),σ=[sR a,sS w,sR sz,none,none,none,none,none,none,none,none,none,none,none,none]∧ar H3 H4∧H4 sz=some (.lst [.int x, .int y])∧(0≤x∧x≤40)∧0≤y∧y≤40,?_,?_⟩
  ·refine⟨_,rfl,a,ns,4,rfl,Vi,Zv,_,_,rfl,rfl,(show(0:Int)<4 by decide),rfl,_,rfl,?_⟩;refine bB (fun _=>?_) (fun _=>⟨sz,x,y,rfl, .refl _,hsz,by lia,by lia,by lia⟩);exact⟨_,rfl,sz,_,1,_,rfl,rfl, .of hsz,aF (j:=1) rfl,_,_,rfl,rfl,ax Zr,fun p hp=>⟨p,_,_,rfl,ar.upd hp,ae,⟨Zv,Zv⟩,by lia,by lia⟩⟩
  clear hx hy hsz x y sz;rintro σ H4 ⟨sz,x,y,rfl,s4,hsz,hx,hy⟩;have IH:=s4.seq Vi;have m2:=md (cell ns 5/9) 2 (Zv);have pick:∀i:Int,0≤i→i<2→∃n:Nat,n≤40∧tN [V.int x,V.int y] i=some (.int n):=fun i h0 h1=>by
   obtain⟨mo,IE,hm⟩:=int_at [x,y] (i:=i) h0 (by simpa using h1);have Hh:mo=x∨mo=y:=by simpa using IE
   exact⟨mo.toNat,by lia,by rw[show((mo.toNat:Nat):Int)=mo by lia];simpa using hm⟩
  refine⟨fun σ H5=>∃n:Nat,n≤40∧σ=[sR a,sS w,sR sz,sI n,none,none,none,none,none,none,none,none,none,none,none]∧H5=H4,?_,?_⟩
  ·obtain⟨n,hn,e⟩:=pick (cell ns 5/9%2) m2.1 m2.2;exact⟨_,rfl,_,rfl,a,ns,5,rfl,IH,Zv,_,_,rfl,rfl,⟨Zv,Zv⟩,_,_,rfl,rfl,(show(0:Int)<2 by decide),sz,_,_,_,rfl,rfl, .of hsz,e,n,hn,rfl,rfl⟩
  rintro σ H4 ⟨n,hn,rfl,rfl⟩;refine⟨fun σ H5=>∃m:Nat,m≤40∧σ=[sR a,sS w,sR sz,sI n,sI m,none,none,none,none,none,none,none,none,none,none]∧H5=H4,?_,?_⟩
  ·obtain⟨m,hm,e⟩:=pick (1-cell ns 5/9%2) (by lia) (by lia);exact⟨_,rfl,_,rfl,a,ns,5,rfl,IH,Zv,_,_,rfl,rfl,⟨Zv,Zv⟩,_,_,rfl,rfl,(show(0:Int)<2 by decide),_,_,rfl,rfl,sz,_,_,_,rfl,rfl, .of hsz,e,m,hm,rfl,rfl⟩
  rintro σ H4 ⟨m,hm,rfl,rfl⟩;clear pick m2;refine⟨fun σ H5=>∃S:Int,(1≤S∧S≤9)∧σ=[sR a,sS w,sR sz,sI n,sI m,sI S,none,none,none,none,none,none,none,none,none]∧H5=H4,?_,?_⟩
  ·have:=md (cell ns 5) 9 (Zv);exact⟨_,rfl,a,ns,5,rfl,IH,Zv,_,_,rfl,rfl,(show(0:Int)<9 by decide),_,_,rfl,rfl,_,⟨by lia,by lia⟩,rfl,rfl⟩
  rintro σ H4 ⟨S,Ye,rfl,rfl⟩;have mS:=md (cell ns 6) (1000000-40*S) (by lia);have Yg:=md (cell ns 7) (1000000-40*S) (by lia);refine⟨fun σ H5=>∃o:Int,(40*S≤o∧o≤999999)∧σ=[sR a,sS w,sR sz,sI n,sI m,sI S,sI o,none,none,none,none,none,none,none,none]∧H5=H4,?_,?_⟩
  ·exact⟨_,rfl,_,_,rfl,rfl, .inl (Zv),_,rfl,a,ns,6,rfl,IH,Zv,_,rfl,_,_,rfl,rfl, .inl (Zv),_,_,rfl,rfl,_,_,rfl,rfl,(show(0:Int)<1000000-40*S by lia),_,_,rfl,rfl,_,⟨by lia,by lia⟩,rfl,rfl⟩
  rintro σ H4 ⟨o,ho,rfl,rfl⟩;refine⟨fun σ H5=>∃p:Int,(40*S≤p∧p≤999999)∧σ=[sR a,sS w,sR sz,sI n,sI m,sI S,sI o,sI p,none,none,none,none,none,none,none]∧H5=H4,?_,?_⟩
  ·exact⟨_,rfl,_,_,rfl,rfl, .inl (Zv),_,rfl,a,ns,7,rfl,IH,Zv,_,rfl,_,_,rfl,rfl, .inl (Zv),_,_,rfl,rfl,_,_,rfl,rfl,(show(0:Int)<1000000-40*S by lia),_,_,rfl,rfl,_,⟨by lia,by lia⟩,rfl,rfl⟩
  rintro σ H4 ⟨p,hp,rfl,rfl⟩;clear mS Yg;refine⟨fun σ H5=>∃z:Int,(1≤z∧z≤40)∧σ=[sR a,sS w,sR sz,sI n,sI m,sI S,sI o,sI p,sI z,none,none,none,none,none,none]∧H5=H4,?_,?_⟩
  ·have:=md (cell ns 8) 40 (Zv);exact⟨_,rfl,a,ns,8,rfl,IH,Zv,_,_,rfl,rfl,(show(0:Int)<40 by decide),_,_,rfl,rfl,_,⟨by lia,by lia⟩,rfl,rfl⟩
  rintro σ H4 ⟨z,hz,rfl,rfl⟩;refine⟨fun σ H5=>∃z:Int,(1≤z∧z≤40)∧σ=[sR a,sS w,sR sz,sI n,sI m,sI S,sI o,sI p,sI z,none,none,none,none,none,none]∧H5=H4,?_,?_⟩
  ·refine⟨_,rfl,a,ns,4,rfl,IH,Zv,_,_,rfl,rfl,⟨Zv,Zv⟩,_,_,rfl,rfl,(show(0:Int)<3 by decide),rfl,_,rfl,?_⟩;exact bB (fun _=>⟨1,⟨Zv,Zv⟩,rfl,rfl⟩) (fun _=>⟨z,hz,rfl,rfl⟩)
  clear hz z;rintro σ H4 ⟨z,hz,rfl,rfl⟩;refine⟨fun σ H5=>∃L:Int,(1≤L∧L≤999999)∧σ=[sR a,sS w,sR sz,sI n,sI m,sI S,sI o,sI p,sI z,sI L,none,none,none,none,none]∧H5=H4,?_,?_⟩
  ·have m3:=md (cell ns 9) 3 (Zv);have b1:=Int.mul_le_mul Ye.2 hz.2 Zq (Zv);have b0:=Int.mul_nonneg (show 0≤S by lia) (show 0≤z by lia);exact⟨_,rfl,_,rfl,_,_,rfl,rfl, .inl ⟨by lia,by lia⟩,_,rfl,a,ns,9,rfl,IH,Zv,_,_,rfl,rfl,(show(0:Int)<3 by decide),_,_,rfl,rfl,_,_,rfl,rfl,_,_,rfl,_,⟨by split<;>lia,by split<;>lia⟩,rfl,rfl⟩
  rintro σ H4 ⟨L,hL,rfl,rfl⟩;refine⟨fun σ H5=>∃(d:Addr)(ds:List V)(ls:List Ky),σ=[sR a,sS w,sR sz,sI n,sI m,sI S,sI o,sI p,sI z,sI L,sR d,none,none,none,none]∧ar H4 H5∧H5 d=some (.lst ds)∧tY H5 ds (ls.map fun k:Ky=>((0-k.1)*S,k.2))∧ls.Perm (qO n m S L)∧ls.Pairwise (fun a b=>pS (AQ a) (AQ b)=true),?_,?_⟩
  ·exact⟨_,rfl,_,rfl,_,rfl,_,rfl,n,m,S,L,rfl,by lia,by lia,by lia,by lia,fun H5 r ws ls s5 hr DU pm sr=>⟨r,ws,ls,rfl,s5,hr,DU,pm,sr⟩⟩
  rintro σ H5 ⟨d,ds,ls,rfl,s5,Yh,Yi,pm,sr⟩;refine⟨fun σ H6=>σ=[sR a,sS w,sR sz,sI n,sI m,sI S,sI o,sI p,sI z,sI L,sR d,sS "",none,none,none]∧H6=H5,⟨rfl,rfl⟩,?_⟩;rintro σ H5 ⟨rfl,rfl⟩;refine⟨fun σ H6=>σ=[sR a,sS w,sR sz,sI n,sI m,sI S,sI o,sI p,sI z,sI L,sR d,sS "",some .cn,none,none]∧H6=H5,⟨rfl,rfl⟩,?_⟩;rintro σ H5 ⟨rfl,rfl⟩;refine⟨fun σ H6=>∃(tv:V)(rf:Str),σ=[sR a,sS w,sR sz,sI n,sI m,sI S,sI o,sI p,sI z,sI L,sR d,sS rf,some tv,none,none]∧ar H5 H6∧((rf=kindOf 9∧20<ls.length)∨(rf=""∧∃t us es,tv= .ref t∧H6 t=some (.lst us)∧cA (fun _=>True) H6 ay us es∧pZ (mf (G_ n m S o p L w) []) o p L es)),?_,?_⟩
  ·refine⟨fun σ cls od H6=>cls= .ref aM∧σ=[sR a,sS w,sR sz,sI n,sI m,sI S,sI o,sI p,sI z,sI L,sR d,sS "",some .cn,none,none]∧ar H5 H6∧20<ls.length,?_,?_⟩
   ·refine⟨_,rfl,ax Zr,fun p1 Fn=>⟨_,rfl,p1,_,_,rfl,rfl,ae,by lia,by lia,ax (by show 1*_≤_;lia),fun y1 RY=>?_⟩⟩;rw[show((n:Nat):Int).toNat=n by lia,AR];have t1:=(ar.upd (o:= .lst [.str w]) Fn).trans (ar.upd (o:= .lst ((List.replicate n w).map V.str)) RY);have Ou:upd (upd H5 p1 (.lst [.str w])) y1 (.lst ((List.replicate n w).map V.str)) y1=some (.lst ((List.replicate n w).map V.str)):=ae;generalize upd (upd H5 p1 (.lst [.str w])) y1 (.lst ((List.replicate n w).map V.str))=G1 at t1 Ou;refine⟨_,rfl,ax Zr,fun p2 Fg=>⟨_,rfl,p2,_,_,rfl,rfl,ae,by lia,by lia,ax (by show 1*_≤_;lia),fun y2 RX=>?_⟩⟩;rw[show((m:Nat):Int).toNat=m by lia,AR];have t2:=(ar.upd (o:= .lst [.str w]) Fg).trans (ar.upd (o:= .lst ((List.replicate m w).map V.str)) RX);have Ov:upd (upd G1 p2 (.lst [.str w])) y2 (.lst ((List.replicate m w).map V.str)) y2=some (.lst ((List.replicate m w).map V.str)):=ae;generalize upd (upd G1 p2 (.lst [.str w])) y2 (.lst ((List.replicate m w).map V.str))=G2 at t2 Ov;refine⟨_,rfl,_,rfl,_,rfl,_,rfl,fun x dx hx Fh dE=>?_⟩;have Yj:iM ⟨S,o,p,L,50⟩=true:=by
     simp[iM,inR]
     lia
    refine⟨x,dx,⟨S,o,p,L,50⟩, .cn,[],[],rfl,ae,by rw[ai dE];exact ae, .inl ⟨rfl,rfl,rfl⟩,⟨Zx,fun f hf=>by cases hf⟩,?_⟩;rw[Zi Yj,if_pos (Zw)];intro H6 l2 d2 sb T6 Y1 P6;have t3:=SameBut.yU hx Fh sb;refine⟨rfl,y1,y2,x,G_ n m S o p L w,rfl,t3 _ _ (t2 _ _ Ou),t3 _ _ Ov,⟨_,dx,l2,d2,[],T6,rfl,rfl,rfl,rfl⟩,by show(List.replicate n w).length≤_;rw[List.length_replicate];lia,by show(List.replicate m w).length≤_;rw[List.length_replicate];lia,fun es TD H7 r us s7 qD hr FL=>?_,fun fs f RC P7 H7 s7=>?_⟩
    ·exact⟨.ref r,"",rfl,((t1.trans t2).trans t3).trans s7, .inr ⟨rfl,r,us,es,rfl,hr,FL.keep (fun _ _ _ h=>h) (fun _ _ h=>h) (fun _ _=>trivial),TD⟩⟩
    ·have:=EZ Zq ho.1 hp.1 hn hL.1 RC;have:=pm.length_eq;exact⟨rfl,rfl,((t1.trans t2).trans t3).trans s7,by lia⟩
   ·rintro a7 cls od H6 ⟨rfl,rfl,s6,P7⟩;refine⟨aM,rfl,true,ko,?_⟩;refine jH ?_;intro ea Yk;have sE:ar H6 (upd H6 ea (.exc ea aM)):=ar.upd Yk;exact⟨_,rfl,ea,aM,9,rfl,ae,dz.e,Zv,jk,fun H7 s7=>⟨.cn,kindOf 9,rfl,(s6.trans sE).trans s7, .inl ⟨rfl,P7⟩⟩⟩
  rintro σ H6 ⟨tv,rf,rfl,s6,hc⟩;have P6:=s6 _ _ Yh;have Vj:=Yi.keep s6;have dl:=Vj.1;rw[List.length_map]at dl;refine⟨fun σ H7=>rf=""∧σ=[sR a,sS w,sR sz,sI n,sI m,sI S,sI o,sI p,sI z,sI L,sR d,sS rf,some tv,none,none]∧H7=H6∧ls.length≤20,?_,?_⟩
  ·refine⟨_,rfl,d,_,rfl, .inl (.of P6),_,_,rfl,rfl,_,rfl,?_⟩;rcases hc with⟨rfl,P7⟩|⟨rfl,t,us,es,rfl,ht,FL,TD⟩
   ·refine bB (fun _=>?_) (fun hh=>absurd hh (by simp;lia));refine⟨_,rfl,d,_,rfl, .inl (.of P6),_,_,rfl,rfl,_,rfl,?_⟩;refine bB (fun _=>?_) (fun hh=>absurd hh (by simp;lia));exact⟨_,rfl,rfl,q _⟩
   ·have hle:ls.length≤20:=by
     have e:=(TD.alike Zq ho.1 hp.1 hn hL.1 pm sr).1;have:=congrArg List.length e;rw[List.length_map,List.length_map]at this;have:=TD.Bk
     lia
    refine bB (fun hh=>absurd hh (by simp;lia)) (fun _=>?_);refine⟨_,rfl,rfl,_,rfl,?_⟩;refine bB (fun hh=>absurd hh Zr) (fun _=>?_);exact⟨rfl,rfl,rfl,hle⟩
  rintro σ H6 ⟨e0,rfl,rfl,hle⟩;rcases hc with⟨rfl,P7⟩|⟨_,t,us,es,rfl,ht,FL,TD⟩
  ·lia
  obtain⟨eq,sl⟩:=TD.alike Zq ho.1 hp.1 hn hL.1 pm sr;have K1:=FL.1;have Bk:=TD.Bk;refine⟨fun σ H7=>σ=[sR a,sS w,sR sz,sI n,sI m,sI S,sI o,sI p,sI z,sI L,sR d,sS rf,sR t,none,none]∧H7=H6,?_,?_⟩
  ·refine⟨_,rfl,_,rfl,t,d,us,ds,es,_,rfl,ht,FL,P6,by rw[eq];exact Vj,by lia,_,rfl,?_⟩;exact g6 ⟨rfl,rfl⟩
  rintro σ H6 ⟨rfl,rfl⟩;refine⟨fun σ H7=>True,?_,fun σ H7 _=>q _⟩;refine⟨_,rfl,t,rfl,⟨_, .of ht⟩,?_⟩;refine eF (xs:=us) (fun k σ H7=>(∃u,σ=[sR a,sS w,sR sz,sI n,sI m,sI S,sI o,sI p,sI z,sI L,sR d,sS rf,sR t,none,u])∧ar H6 H7) ⟨⟨_,rfl⟩, .refl _⟩ ?_ ?_ (fun _ _ _=>trivial)
  ·rintro k σ H7 _ ⟨_,s7⟩;exact .of (s7 _ _ ht)
  rintro k v σ H7 hv ⟨⟨u,rfl⟩,s7⟩;have hk:k<es.length:=by rw[←K1];exact(Y' hv).1
  have ek:es[k]?=some es[k]:=by simp[hk]
  generalize es[k]=e at ek;obtain⟨y0,dy,wy,i7,pr,kL,iP,e1,F6⟩:=FL.2 k e ek;rw[hv]at e1;cases e1;have F:=F6.keep (P':=fun _=>True) (fun b o _ e=>s7 b o e) (dR.same s7) fun _ h=>h
  have BS:=TD.BS e (Zd ek);obtain⟨st,K⟩:=sl e (Zd ek);have wl:kL.length=dq n m st:=by
   rw[F.pw.1,K.way];exact om _ _ _
  have Yl:dq n m st≤40:=by
   have:=K.NX;unfold lh at this;unfold dq
   lia
  refine⟨fun σ H8=>σ=[sR a,sS w,sR sz,sI n,sI m,sI S,sI o,sI p,sI z,sI L,sR d,sS rf,sR t,none,sR y0]∧ar H7 H8,?_,?_⟩
  ·refine⟨_,rfl,y0,_,e,dy,wy,i7,pr,kL,iP,rfl,F,by rw[BS.row,GX],BS.way.ne,fun H8 s8=>⟨_,rfl,?_⟩⟩;refine g6 ?_;have F8:=F.keep (P':=fun _=>True) (fun b o _ e=>s8 b o e) (dR.same s8) fun _ h=>h
   have pw:=F8.pw;have pp:=F8.pp;rw[K.way]at pw;rw[K.pairs]at pp;refine⟨_,rfl,y0,ay,dy,_,_,rfl,F8.ob,Fc.cl,Fc.way,sk e.worth wy i7 pr,_,rfl,y0,ay,dy,_,_,rfl,F8.ob,Fc.cl,Fc.pairs,jM e.worth wy i7 pr,wy,pr,_,_,_,rfl,rfl, .of F8.hw, .of F8.hp,pw,pp,_,rfl,?_⟩;exact g6 ⟨rfl,s8⟩
  rintro σ H8 ⟨rfl,s8⟩;have F8:=F.keep (P':=fun _=>True) (fun b o _ e=>s8 b o e) (dR.same s8) fun _ h=>h
  refine⟨_,rfl,y0,ay,dy,_,_,rfl,F8.ob,Fc.cl,Fc.row,vP e.worth wy i7 pr,_,rfl,y0,ay,dy,_,_,rfl,F8.ob,Fc.cl,Fc.way,sk e.worth wy i7 pr,wy,_,rfl, .inl (.of F8.hw),_,rfl,by lia,by lia,fun R hR=>?_⟩;refine j4 (fun i ys a7 H9=>(∃u,a7=[u,sI S])∧H9 R=some (.lst ys)∧ar H8 H9∧ys=((List.range i).map fun k:Nat=>S*((k:Int)+1)).map V.int) ⟨⟨_,rfl⟩,ae,ar.upd hR,rfl⟩ ?_ ?_
  ·rintro i ys a7 H9 hi ⟨⟨u,rfl⟩,P8,s9,rfl⟩;have hi:i<40:=by
    have:i<((kL.length:Nat):Int).toNat:=hi
    lia
   refine kY ?_;refine⟨_,rfl,_,rfl,_,_,rfl,rfl,_,_,rfl,rfl, .inl ⟨by lia,by lia⟩,P8,bh (by rw[List.length_map,List.length_map,List.length_range];lia),⟨_,rfl⟩,ae,s9.fA hR,?_⟩;rw[List.range_succ,List.map_append,List.map_append,Int.zero_add];rfl
  ·rintro ys a7 H9 ⟨_,P8,s9,rfl⟩;rw[show((kL.length:Nat):Int).toNat=dq n m st by lia,←K.row]at P8;have rl:e.row.length≤40:=by rw[K.row,List.length_map,List.length_range];exact Yl
   refine⟨i7,R,e.row,rfl,s9 _ _ F8.hr,P8,by lia,_,rfl,?_⟩;exact g6 ⟨⟨_,rfl⟩,(s7.trans s8).trans s9⟩
end
theorem all_mk{l:W.OpenLaw}{w:World}{K:W.Frag}{h:Heap}{mg:Str→Option Value}{fa:Addr}(X:K.In h)(G:h.Ns mainGlobals mg)(Ym:mg "law"=some (.ref fa))
  {oI jl:Option Addr} {oJ:Array (Option Value)} {oK jm jn jo gj jq:Value}
  {gk:Addr} {oM:Value} {oN:Option Addr} {oO:Nat} {oP:Array (Option Value)} {jr:Tok}
  {aU:Addr} (v7:NO K "Terms" aU)
  {av:Addr} (tf:NO K "Trails" av)
  {ay:Addr} (qb:NO K "Finding" ay)
  {aD:Addr} (tm:NO K "Groups" aD)
  {au:Addr} (lA:NO K "Gathering" au)
  {jt:Addr} (oQ:W.nsIn K mainGlobals "is_small_letter"=some (some (.ref jt)))
  (oR:gO K "is_small_letter" "is_small_letter" fV jt)
  {u6:Addr} (BX:W.nsIn K mainGlobals "is_word"=some (some (.ref u6)))
  (BY:gO K "is_word" "is_word" lX u6)
  {oS:Addr} (v8:W.nsIn K mainGlobals "is_between"=some (some (.ref oS)))
  (v9:gO K "is_between" "is_between" kb oS)
  {lB:Addr} (tq:W.nsIn K mainGlobals "check_number"=some (some (.ref lB)))
  (tw:gO K "check_number" "check_number" iQ lB)
  {ju:Addr} (oT:W.nsIn K mainGlobals "check_near_form"=some (some (.ref ju)))
  (oU:gO K "check_near_form" "check_near_form" fW ju)
  {mI:Addr} (ud:W.nsIn K mainGlobals "near_prices"=some (some (.ref mI)))
  (ue:gO K "near_prices" "near_prices" gP mI)
  {e8:Addr} (qc:W.findIn K (.ref aU) "__init__"=some (some (.ref e8))) (qd:W.isFn K (.ref e8)=true)
  (qe:K.lookup e8=some ⟨oK,oI, .func (W.fnOf "__init__" "Terms.__init__" (fo bq) (dZ bq) (ao bq) (.ref gk) jm jn jo jl gj jq),oJ⟩)
  (qf:W.codeIn K gj "Terms.__init__"=true) (qg:W.keepIn K (.ref e8)=true)
  (oV:K.lookup gk=some ⟨oM,oN, .seq #[.int 50 jr, .none] oO,oP⟩)
  {fE:Addr} (ny:W.findIn K (.ref aU) "pair_worth"=some (some (.ref fE))) (nz:W.isFn K (.ref fE)=true)
  (nB:gO K "pair_worth" "Terms.pair_worth" dJ fE)
  {tD:Addr} (zC:W.nsIn K mainGlobals "greatest"=some (some (.ref tD)))
  (zD:gO K "greatest" "greatest" kc tD)
  {E7:Addr} (Lc:W.nsIn K mainGlobals "less"=some (some (.ref E7)))
  (Ld:gO K "less" "less" ZD E7)
  {iT:Addr} (nC:W.nsIn K mainGlobals "begun_or_gone_on"=some (some (.ref iT)))
  (nE:gO K "begun_or_gone_on" "begun_or_gone_on" fB iT)
  {dB:Addr} (jS:W.findIn K (.ref av) "brought_behind"=some (some (.ref dB))) (jT:W.isFn K (.ref dB)=true)
  (jU:gO K "brought_behind" "Trails.brought_behind" du dB)
  {gm:Addr} (oW:W.findIn K (.ref av) "__init__"=some (some (.ref gm))) (oX:W.isFn K (.ref gm)=true)
  (oY:gO K "__init__" "Trails.__init__" d8 gm)
  {gJ:Addr} (qh:W.findIn K (.ref av) "goes_on"=some (some (.ref gJ))) (qi:W.isFn K (.ref gJ)=true)
  (qj:gO K "goes_on" "Trails.goes_on" gI gJ)
  {dQ:Addr} (kq:W.findIn K (.ref av) "is_brought_by"=some (some (.ref dQ))) (kr:W.isFn K (.ref dQ)=true)
  (ku:gO K "is_brought_by" "Trails.is_brought_by" dM dQ)
  {cO:Addr} (iY:W.findIn K (.ref av) "crossings_before"=some (some (.ref cO))) (iZ:W.isFn K (.ref cO)=true)
  (i4:gO K "crossings_before" "Trails.crossings_before" cN cO)
  {eU:Addr} (lC:W.findIn K (.ref av) "pair_before"=some (some (.ref eU))) (lD:W.isFn K (.ref eU)=true)
  (lE:gO K "pair_before" "Trails.pair_before" eJ eU)
  {ik:Addr} (qV:W.findIn K (.ref av) "way_to"=some (some (.ref ik))) (qW:W.isFn K (.ref ik)=true)
  (qX:gO K "way_to" "Trails.way_to" ij ik)
  {fF:Addr} (nF:W.findIn K (.ref ay) "__init__"=some (some (.ref fF))) (nG:W.isFn K (.ref fF)=true)
  (nH:gO K "__init__" "Finding.__init__" fC fF)
  {tE:Addr} (zE:W.nsIn K mainGlobals "order_of"=some (some (.ref tE)))
  (zF:gO K "order_of" "order_of" m4 tE)
  {lF:Addr} (tF:W.nsIn K mainGlobals "make_finding"=some (some (.ref lF)))
  (tG:gO K "make_finding" "make_finding" eK lF)
  {gq:Addr} (oZ:W.findIn K (.ref aD) "__init__"=some (some (.ref gq))) (o6:W.isFn K (.ref gq)=true)
  (o7:gO K "__init__" "Groups.__init__" fX gq)
  {kx:Addr} (v_:W.findIn K (.ref aD) "has"=some (some (.ref kx))) (wb:W.isFn K (.ref kx)=true)
  (wc:gO K "has" "Groups.has" iB kx)
  {gK:Addr} (qk:W.findIn K (.ref aD) "take_in"=some (some (.ref gK))) (ql:W.isFn K (.ref gK)=true)
  (qm:gO K "take_in" "Groups.take_in" eY gK)
  {iU:Addr} (tH:W.findIn K (.ref aD) "unite"=some (some (.ref iU))) (tI:W.isFn K (.ref iU)=true)
  (tJ:gO K "unite" "Groups.unite" eL iU)
  {jB:Addr} (uf:W.findIn K (.ref aD) "told"=some (some (.ref jB))) (ug:W.isFn K (.ref jB)=true)
  (uh:gO K "told" "Groups.told" gQ jB)
  {eV:Addr} (lG:W.findIn K (.ref au) "__init__"=some (some (.ref eV))) (lH:W.isFn K (.ref eV)=true)
  (lI:gO K "__init__" "Gathering.__init__" eM eV)
  {gL:Addr} (qo:W.findIn K (.ref au) "mark"=some (some (.ref gL))) (qp:W.isFn K (.ref gL)=true)
  (qr:gO K "mark" "Gathering.mark" eZ gL)
  {fe:Addr} (mw:W.findIn K (.ref au) "go_over"=some (some (.ref fe))) (my:W.isFn K (.ref fe)=true)
  (mz:gO K "go_over" "Gathering.go_over" c7 fe)
  {gu:Addr} (o8:W.findIn K (.ref au) "visit"=some (some (.ref gu))) (o_:W.isFn K (.ref gu)=true)
  (pd:gO K "visit" "Gathering.visit" d_ gu)
  {mJ:Addr} (ui:W.nsIn K mainGlobals "best_groups"=some (some (.ref mJ)))
  (uj:gO K "best_groups" "best_groups" jy mJ)
  {u7:Addr} (B0:W.nsIn K mainGlobals "shut_by"=some (some (.ref u7)))
  (B1:gO K "shut_by" "shut_by" lY u7)
  {mK:Addr} (uk:W.nsIn K mainGlobals "open_worths"=some (some (.ref mK)))
  (um:gO K "open_worths" "open_worths" fh mK)
  {pe:Addr} (we:W.nsIn K mainGlobals "make_round"=some (some (.ref pe)))
  (wg:gO K "make_round" "make_round" fY pe)
  {ph:Addr} (wj:W.nsIn K mainGlobals "shut_pairs"=some (some (.ref ph)))
  (wk:gO K "shut_pairs" "shut_pairs" ke ph)
  {u9:Addr} (B2:W.nsIn K mainGlobals "compare"=some (some (.ref u9)))
  (B4:gO K "compare" "compare" p8 u9)
  {u_:Addr} (B5:W.nsIn K mainGlobals "_law_at"=some (some (.ref u_)))
  (B6:gO K "_law_at" "_law_at" p9 u_)
  {pj:Addr} (wm:W.nsIn K mainGlobals "_law_whole"=some (some (.ref pj)))
  (wo:gO K "_law_whole" "_law_whole" kf pj)
  {qF:Addr} (ya:W.nsIn K mainGlobals "_law_bank"=some (some (.ref qF)))
  (yb:gO K "_law_bank" "_law_bank" lq qF)
  {px:Addr} (wt:W.nsIn K mainGlobals "_law_pairs"=some (some (.ref px)))
  (wu:gO K "_law_pairs" "_law_pairs" kg px)
  {tK:Addr} (zG:W.nsIn K mainGlobals "_law_row"=some (some (.ref tK)))
  (zH:gO K "_law_row" "_law_row" m6 tK)
  {qG:Addr} (yc:W.nsIn K mainGlobals "_law_kind"=some (some (.ref qG)))
  (yd:gO K "_law_kind" "_law_kind" lr qG)
  {lJ:Addr} (tL:W.nsIn K mainGlobals "_law_finding"=some (some (.ref lJ)))
  (tM:gO K "_law_finding" "_law_finding" fZ lJ)
  {jV:Addr} (qt:W.nsIn K mainGlobals "_law_same_list"=some (some (.ref jV)))
  (qu:gO K "_law_same_list" "_law_same_list" e6 jV)
  {mL:Addr} (uo:W.nsIn K mainGlobals "_law_slants"=some (some (.ref mL)))
  (uq:gO K "_law_slants" "_law_slants" cC mL)
  {II:Addr} (Ow:W.nsIn K mainGlobals "law"=some (some (.ref II)))
  (Ox:gO K "law" "law" oq II)
  (Tc:Dp K aU)
  (Rc:Al K av)
  (Fc:Ij K ay)
  (Gc:NB K aD)
  (Hc:Io K au)
  (zz:TZ K)
  {ye:Tok} (yf:W.nsIn K mainGlobals "WORD_MOST"=some (some (.int 12 ye)))
  {wz:Tok} (wA:W.nsIn K mainGlobals "WORTH_MOST"=some (some (.int 999999 wz)))
  {yg:Tok} (yh:W.nsIn K mainGlobals "NEAR_MOST"=some (some (.int 60 yg)))
  {yi:Tok} (yj:W.nsIn K mainGlobals "PART_MOST"=some (some (.int 100 yi)))
  {qY:Tok} (qZ:W.nsIn K mainGlobals "FINDINGS_MOST"=some (some (.int 20 qY)))
  {f9:Addr} (wB:xS K "QuoteError" f9)
  {fJ:Addr} (B7:xS K "BadWord" fJ)
  {fK:Addr} (B8:xS K "BadBook" fK)
  {bK:Addr} (zI:xS K "BadTerms" bK)
  {bF:Addr} (B9:xS K "BadNear" bF)
  {hJ:Addr} (E8:xS K "BadWay" hJ)
  {fL:Addr} (B_:xS K "BadName" fL)
  {fM:Addr} (Ca:xS K "BadYear" fM)
  {dF:Addr} (yk:xS K "NameTaken" dF)
  {lu:Addr} (Le:xS K "Full" lu)
  {aM:Addr} (Cb:xS K "TooMany" aM)
  {hU:Addr} (E9:xS K "NoBook" hU)
  {dG:Addr} (ym:xS K "NoFinding" dG)
  {fN:Addr} (Cc:xS K "HasLeft" fN)
  {dH:Addr} (yn:xS K "BadSearch" dH)
  (zJ:W.nsIn K mainGlobals "reversed"=some none)
  (E_:W.nsIn K mainGlobals "sorted"=some none)
  (ko:W.mroIn K aM (.ref f9)=some true)
  (wC:W.kitOne K (.ref aM) (.ref fJ)=some false)
  (wD:W.kitOne K (.ref aM) (.ref fK)=some false)
  (wF:W.kitOne K (.ref aM) (.ref bK)=some false)
  (wG:W.kitOne K (.ref aM) (.ref bF)=some false)
  (wH:W.kitOne K (.ref aM) (.ref hJ)=some false)
  (wI:W.kitOne K (.ref aM) (.ref fL)=some false)
  (wJ:W.kitOne K (.ref aM) (.ref fM)=some false)
  (wK:W.kitOne K (.ref aM) (.ref dF)=some false)
  (wL:W.kitOne K (.ref aM) (.ref lu)=some false)
  (wM:W.kitOne K (.ref aM) (.ref aM)=some true)
  (ur:W.kitOne K (.ref aM) (.ref hU)=some false)
  (uv:W.kitOne K (.ref aM) (.ref dG)=some false)
  (uw:W.kitOne K (.ref aM) (.ref fN)=some false)
  (ux:W.kitOne K (.ref aM) (.ref dH)=some false)
  (wN:W.kitOne K (.ref aM) (.type "ValueError")=some true)
  :∃fd:FuncData,(∀(s:Shared)(v:Value),BindsTo s fd ⟨[v],[]⟩ [("_law_script",v)])∧∀base:Heap,K.In base→base.Ns mainGlobals mg→bf l.prog w K mg base (dD l.prog w) true 10 fa fd ["_law_script"] (Ac K):=by
 have e:=Ym.symm.trans (W.mg_of X G Ow);cases e;have T:=zz.tb X G;have jb:CH mg "WORD_MOST" (.int 12):=⟨_,W.mg_of X G yf,_,rfl⟩
 have bL:CH mg "WORTH_MOST" (.int 999999):=⟨_,W.mg_of X G wA,_,rfl⟩
 have hV:CH mg "NEAR_MOST" (.int 60):=⟨_,W.mg_of X G yh,_,rfl⟩
 have jc:CH mg "PART_MOST" (.int 100):=⟨_,W.mg_of X G yj,_,rfl⟩
 have dS:CH mg "FINDINGS_MOST" (.int 20):=⟨_,W.mg_of X G qZ,_,rfl⟩
 have gi:=wB.er X G;have l6:=B7.er X G;have l7:=B8.er X G;have eO:=zI.er X G;have bA:=B9.er X G;have oE:=E8.er X G;have l8:=B_.er X G;have l_:=Ca.er X G;have je:=yk.er X G;have vZ:=Le.er X G;have dz:=Cb.er X G;have oF:=E9.er X G;have jf:=ym.er X G;have l':=Cc.er X G;have jg:=yn.er X G;have Lf:mg "reversed"=none:=W.mg_none_of X G zJ;have fj:mg "sorted"=none:=W.mg_none_of X G E_;have jk:Fits K aM [fJ,fK,bK,bF,hJ,fL,fM,dF,lu,aM,hU,dG,fN,dH] 9:=Fits.mk wC wD wF wG wH wI wJ wK wL wM ur uv uw ux wN;obtain @⟨_,k1,k2,k3,k4,k5,_,k6,_,l9,c9,k9⟩:=Ox;refine⟨W.fnOf "law" "law" (fo oq) (dZ oq) (ao oq) .none k1 k2 k3 k6 k4 k5,fun s v=> .of_eq rfl,fun base _ _=>?_⟩;have eh:=oR.df X G oQ (fun _ F=>m_ (P:=l.prog) (w:=w) (base:=base) T F) (Cn fun _ _ _ _ _ _ _=>rfl);have jO:=BY.df X G BX (fun _ F=>Z_ (P:=l.prog) (w:=w) (base:=base) T jb eh F) (Cn fun _ _ _ _ _ _ _=>rfl);have dN:=v9.df X G v8 (fun _ F=>t5 (P:=l.prog) (w:=w) (base:=base) T F) (AN fun _ _ _ _ _ _ _ _ _=>rfl);have ck:=tw.df X G tq (fun _ F=>qR (P:=l.prog) (w:=w) (base:=base) T dN eO F) (RP fun _ _ _ _ _ _ _ _ _ _=>rfl);have eA:=oU.df X G oT (fun _ F=>nh (P:=l.prog) (w:=w) (base:=base) T dN bL jO bA F) (AN fun _ _ _ _ _ _ _ _ _=>rfl);have gR:=ue.df X G ud (fun _ F=>sU (P:=l.prog) (w:=w) (base:=base) T bA hV eA F) (Cn fun _ _ _ _ _ _ _=>rfl);have qv:=ZN (st:=bq) qe qf qg;have qw:=ou (P:=l.prog) (w:=w) (base:=base) T bL jc ck gR Tc qv;have zK:Binds K (W.fnOf "__init__" "Terms.__init__" (fo bq) (dZ bq) (ao bq) (.ref gk) jm jn jo jl gj jq) ["self","same","out","into","least","part","near"] [.int 50 jr, .none]:=fun s us hK hl=>by
  obtain⟨_,_,_,_,_,rfl⟩:=QF.RT us (by simpa using hl);exact BindsTo.of_defaults rfl (hK _ _ oV) rfl rfl rfl
 have oH:mD l.prog w K mg base true 5 "Terms" aU ["self","same","out","into","least","part","near"] [.int 50, .cn] (rq aU bK bF):=xp qw ⟨v7.b,qc,qd,v7.c⟩ (W.mg_of X G v7.a) zK (.cons ⟨_,rfl⟩ (.cons rfl .nil));have dP:=nB.mt Tc.cl ny nz (fun _ F=>mh (P:=l.prog) (w:=w) (base:=base) T Tc F) (AN fun _ _ _ _ _ _ _ _ _=>rfl);have eQ:=zD.df X G zC (fun _ F=>xW (P:=l.prog) (w:=w) (base:=base) T F) (Cn fun _ _ _ _ _ _ _=>rfl);have kh:=Ld.df X G Lc (fun _ F=>Hb (P:=l.prog) (w:=w) (base:=base) T F) (AM fun _ _ _ _ _ _ _ _=>rfl);have dO:=nE.df X G nC (fun _ F=>mj (P:=l.prog) (w:=w) (base:=base) T F) (AM fun _ _ _ _ _ _ _ _=>rfl);have cq:=jU.mt Rc.cl jS jT (fun _ F=>jz (P:=l.prog) (w:=w) (base:=base) T eQ kh Rc F) (AN fun _ _ _ _ _ _ _ _ _=>rfl);have l5:=oY.nw (W.mg_of X G tf.a) tf.b tf.c oW oX (fun _ F=>ni (P:=l.prog) (w:=w) (base:=base) T Tc Rc dO cq F) (AN fun _ _ _ _ _ _ _ _ _=>rfl);have bT:=qj.mt Rc.cl qh qi (fun _ F=>ow (P:=l.prog) (w:=w) (base:=base) T Rc F) (AM fun _ _ _ _ _ _ _ _=>rfl);have a9:=ku.mt Rc.cl kq kr (fun _ F=>jQ (P:=l.prog) (w:=w) (base:=base) T Rc F) (AN fun _ _ _ _ _ _ _ _ _=>rfl);have aX:=i4.mt Rc.cl iY iZ (fun _ F=>iR (P:=l.prog) (w:=w) (base:=base) T kh Rc F) (AM fun _ _ _ _ _ _ _ _=>rfl);have cV:=lE.mt Rc.cl lC lD (fun _ F=>kH (P:=l.prog) (w:=w) (base:=base) T Rc a9 aX F) (AM fun _ _ _ _ _ _ _ _=>rfl);have fu:=qX.mt Rc.cl qV qW (fun _ F=>p_ (P:=l.prog) (w:=w) (base:=base) T Rc bT cV F) (AM fun _ _ _ _ _ _ _ _=>rfl);have ki:=nH.nw (W.mg_of X G qb.a) qb.b qb.c nF nG (fun _ F=>mq (P:=l.prog) (w:=w) (base:=base) T Fc F) (WS fun _ _ _ _ _ _ _ _ _ _ _=>rfl);have kj:=zF.df X G zE (fun _ F=>xZ (P:=l.prog) (w:=w) (base:=base) T Fc F) (Cn fun _ _ _ _ _ _ _=>rfl);have f':=tG.df X G tF (fun _ F=>qS (P:=l.prog) (w:=w) (base:=base) T Rc fu ki F) (AN fun _ _ _ _ _ _ _ _ _=>rfl);have lZ:=o7.nw (W.mg_of X G tm.a) tm.b tm.c oZ o6 (fun _ F=>nk (P:=l.prog) (w:=w) (base:=base) T Gc F) (Cn fun _ _ _ _ _ _ _=>rfl);have iC:=wc.mt Gc.cl v_ wb (fun _ F=>t8 (P:=l.prog) (w:=w) (base:=base) T Gc F) (AM fun _ _ _ _ _ _ _ _=>rfl);have bU:=qm.mt Gc.cl qk ql (fun _ F=>oA (P:=l.prog) (w:=w) (base:=base) T Gc F) (AM fun _ _ _ _ _ _ _ _=>rfl);have cJ:=tJ.mt Gc.cl tH tI (fun _ F=>qT (P:=l.prog) (w:=w) (base:=base) T Gc F) (AN fun _ _ _ _ _ _ _ _ _=>rfl);have gS:=uh.mt Gc.cl uf ug (fun _ F=>sW (P:=l.prog) (w:=w) (base:=base) T Gc fj F) (Cn fun _ _ _ _ _ _ _=>rfl);have iD:=lI.nw (W.mg_of X G lA.a) lA.b lA.c lG lH (fun _ F=>kJ (P:=l.prog) (w:=w) (base:=base) T lZ Hc F) (AN fun _ _ _ _ _ _ _ _ _=>rfl);have bV:=qr.mt Hc.cl qo qp (fun _ F=>oC (P:=l.prog) (w:=w) (base:=base) T Hc cJ F) (AN fun _ _ _ _ _ _ _ _ _=>rfl);have c8:=mz.mt Hc.cl mw my (fun _ F=>lz (P:=l.prog) (w:=w) (base:=base) T a9 aX Hc cJ bU bV F) (AN fun _ _ _ _ _ _ _ _ _=>rfl);have eC:=pd.mt Hc.cl o8 o_ (fun _ F=>nq (P:=l.prog) (w:=w) (base:=base) T Rc bT Hc bU bV iC c8 F) (AN fun _ _ _ _ _ _ _ _ _=>rfl);have gT:=uj.df X G ui (fun _ F=>sX (P:=l.prog) (w:=w) (base:=base) T Rc Hc iD eC gS F) (AM fun _ _ _ _ _ _ _ _=>rfl);have l0:=B1.df X G B0 (fun _ F=>ZZ (P:=l.prog) (w:=w) (base:=base) T F) (Cn fun _ _ _ _ _ _ _=>rfl);have gW:=um.df X G uk (fun _ F=>sY (P:=l.prog) (w:=w) (base:=base) T Tc l0 dP F) (RP fun _ _ _ _ _ _ _ _ _ _=>rfl);have gc:=wg.df X G we (fun _ F=>t9 (P:=l.prog) (w:=w) (base:=base) T Tc eQ Rc l5 gT f' F) (AM fun _ _ _ _ _ _ _ _=>rfl);have iE:=wk.df X G wj (fun _ F=>t_ (P:=l.prog) (w:=w) (base:=base) T Fc F) (AM fun _ _ _ _ _ _ _ _=>rfl);have ma:=B4.df X G B2 (fun _ F=>ZX (P:=l.prog) (w:=w) (base:=base) T fj dS gW gc iE kj dz F) (AN fun _ _ _ _ _ _ _ _ _=>rfl);have bG:=B6.df X G B5 (fun _ F=>zB (P:=l.prog) (w:=w) (base:=base) T F) (AM fun _ _ _ _ _ _ _ _=>rfl);have a_:=wo.df X G wm (fun _ F=>ub (P:=l.prog) (w:=w) (base:=base) T F) (Cn fun _ _ _ _ _ _ _=>rfl);have ji:=yb.df X G ya (fun _ F=>vY (P:=l.prog) (w:=w) (base:=base) T F) (AN fun _ _ _ _ _ _ _ _ _=>rfl);have cX:=wu.df X G wt (fun _ F=>uc (P:=l.prog) (w:=w) (base:=base) T a_ F) (Cn fun _ _ _ _ _ _ _=>rfl);have kn:=zH.df X G zG (fun _ F=>x_ (P:=l.prog) (w:=w) (base:=base) T a_ F) (AM fun _ _ _ _ _ _ _ _=>rfl);have jj:=yd.df X G yc (fun _ F=>v5 (P:=l.prog) (w:=w) (base:=base) T eO bA dz l6 l7 oE l8 l_ je vZ oF jf l' jg F) (Cn fun _ _ _ _ _ _ _=>rfl);have gh:=tM.df X G tL (fun _ F=>qU (P:=l.prog) (w:=w) (base:=base) T Fc a_ cX F) (Cn fun _ _ _ _ _ _ _=>rfl);have e7:=qu.df X G qt (fun _ F=>oG (P:=l.prog) (w:=w) (base:=base) T Fc a_ cX F) (AM fun _ _ _ _ _ _ _ _=>rfl);have gX:=uq.df X G uo (fun _ F=>s_ (P:=l.prog) (w:=w) (base:=base) T fj F) (RP fun _ _ _ _ _ _ _ _ _ _=>rfl);exact Lb T Tc Fc dz ma oH bG ji kn jj gh e7 gX gi jk ko (C2 (st:=oq) l9 c9 k9)
theorem walk{l:W.OpenLaw}{q:Program}{loose:List Str}{XP:(Str→Option Value)→Heap→Prop}{YP:World→Heap→Prop}{d:DefRec}{K:Params→W.Frag}(hn:l.most=some 63)(MJ:d.params.defaults=[])
  (hY:∀(w:World)(h:Heap),YP w h→(K w.params).In h)
  (F:∀(w:World)(mg:Str→Option Value)(fa:Addr)(h:Heap),(K w.params).In h→h.Ns mainGlobals mg→mg d.name=some (.ref fa)→
   ∃fd:FuncData,(∀(s:Shared)(u:Value),BindsTo s fd ⟨[u],[]⟩ [("_law_script",u)])∧∀base:Heap,(K w.params).In base→base.Ns mainGlobals mg→bf l.prog w (K w.params) mg base (dD l.prog w) true 10 fa fd ["_law_script"] (Ac (K w.params))):
  W.WalkO q loose XP YP l.row.toRowW d [] (fun f vs=>PySem.call f vs):=
 L2.F9 (n:=63) (k:=10) (x:="_law_script") (CX:=fun w=>dD l.prog w) (sp:=fun w=>Ac (K w.params)) hn (Zv) MJ ⟨(fun _=>rfl),Zv,Zv⟩ hY F (fun _ _ a ns hl _ hS=>⟨a,ns,rfl,hS,hl,fun _=>rfl⟩) fun _ _ _ _ _ z=>by obtain⟨_,_,_,_,_,_,_,_,_,_,_,_,_,z⟩:=z;exact z
end RW
open PySem PySem.W PyProof.Rows
set_option maxRecDepth 100000 in
set_option maxHeartbeats 0 in
theorem PySem.Challenge.cw_quotefind_k29_alike_holds : PySem.Challenge.rw_quotefind_k29_alike.Holds := by
 w_on;refine holds_law HD.ws fun said=>?_;k_head
 (case hw=>w_witness2)
 refine RW.walk (l:=PySem.Challenge.rw_quotefind_k29_alike) rfl rfl (fun w h Y=>PySem.W.kIn_of Y) ?F
 case F=>
  intro w mg fa h KX G MK
  refine' RW.all_mk KX G MK ?_ ?_ ?_ ?_ ?_ ?_ ?_ ?_ ?_ ?_ ?_ ?_ ?_ ?_ ?_ ?_ ?_ ?_ ?_ ?_ ?_ ?_ ?_ ?_ ?_ ?_ ?_ ?_ ?_ ?_ ?_ ?_ ?_ ?_ ?_ ?_ ?_ ?_ ?_ ?_ ?_ ?_ ?_ ?_ ?_ ?_ ?_ ?_ ?_ ?_ ?_ ?_ ?_ ?_ ?_ ?_ ?_ ?_ ?_ ?_ ?_ ?_ ?_ ?_ ?_ ?_ ?_ ?_ ?_ ?_ ?_ ?_ ?_ ?_ ?_ ?_ ?_ ?_ ?_ ?_ ?_ ?_ ?_ ?_ ?_ ?_ ?_ ?_ ?_ ?_ ?_ ?_ ?_ ?_ ?_ ?_ ?_ ?_ ?_ ?_ ?_ ?_ ?_ ?_ ?_ ?_ ?_ ?_ ?_ ?_ ?_ ?_ ?_ ?_ ?_ ?_ ?_ ?_ ?_ ?_ ?_ ?_ ?_ ?_ ?_ ?_ ?_ ?_ ?_ ?_ ?_ ?_ ?_ ?_ ?_ ?_ ?_ ?_ ?_ ?_ ?_ ?_ ?_ ?_ ?_ ?_ ?_ ?_ ?_ ?_ ?_ ?_ ?_ ?_ ?_ ?_ ?_ ?_ ?_ ?_ ?_ ?_ ?_
  all_goals first|k_is|(show(_:Prop);constructor<;>first|(show _=_;k_is)|k_exc|(constructor<;>(show _=_;k_is)))|skip
#print axioms PySem.Challenge.cw_quotefind_k29_alike_holds
