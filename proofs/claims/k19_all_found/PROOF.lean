import PyProof.Rows.All
import Wide.All
import OpenK.AllK
import Wide.FinOn
import Lean
import PyProof.EqAt
import PyProof.EqKinds
import PyProof.TupleCall
import PySem.Challenge.RW_quotefind_k19_all_found
set_option Elab.async false
set_option linter.all false
set_option maxRecDepth 100000
set_option hygiene false in
local macro_rules
|`(tactic|o_head $H)=>`(tactic|refine holds_open (q:=HD.q HD.pw) (loose:=HD.loose) (Xt:=HD.Xt HD.pw []) (XP:=XL (HD.q HD.pw) []) (Yf:=Hook.obs $H) (Ya:=Hook.val $H) (YP:=Hook.says $H) (d:=HD.d) (kwd:=[]) (N:=HD.HH) (HD.left HD.pw HD.TQ $H fun w os=>by kernel_rfl) (Hook.of $H) (Hook.keeps $H) (fun s e=>xl_of s (Bool.and_eq_true_iff.mp e).1) XL.keeps (by kernel_rfl) (by kernel_rfl) (by kernel_rfl) (fun s e=>recFacts_of (Bool.and_eq_true_iff.mp e).2) (by rfl) (by assumption) (by decide+kernel) ⟨rfl,rfl,rfl,rfl,rfl,by decide+kernel⟩ ?hw ?hc)
|`(Xo $a $b)=>`(@ak _ _ _ _ _ $a $b (by rfl))
|`(Xp $a $b $c)=>`(@aC _ _ $a _ _ _ _ $b (by exact rfl) (Or.inl rfl) $c (by rfl) (by exact .inl rfl))
|`(Xq $a $b $c)=>`(@aL _ _ _ _ _ _ _ _ _ _ _ _ $a (hr.mono (by decide)) $b $c (by rfl) (by decide) (by rfl) (by rfl))
|`(Xr $a $b $c)=>`(@aK _ _ $a _ $b (by exact rfl) $c (by first|exact .inl rfl|exact .inr rfl|assumption))
|`(Xs $a $b)=>`(@aB _ _ _ _ _ _ _ (ar K) $a $b (fun _ _=>rfl))
|`(Xu $a $b $c $d $e)=>`(@aS _ _ _ _ _ _ _ _ _ $a $b $c $d $e (by decide) (by decide) (by rfl) (by rfl))
|`(Xv $a)=>`(List.getElem?_eq_some_iff.mp $a)
|`(Xw $a $b $c)=>`(@aG _ _ _ _ _ _ _ _ $a $b $c)
|`(Xx $a $b)=>`(@aI _ $a _ _ _ _ $b (by rfl) (by rfl))
|`(Xy $a $b $c $d $e $f $g)=>`(@eE _ $a _ _ _ _ _ _ _ _ _ _ _ $b $c $d $e $f $g (by rfl) (by rfl) (by rfl) (by rfl) (by rfl) (by rfl))
|`(Xz $a $b $c $d $e)=>`(@bH _ _ _ _ _ _ _ _ _ _ _ _ _ _ _ _ $a $b $c $d $e (by rfl) (by rfl) (by rfl))
|`(XA $a $b)=>`(@au _ _ _ _ _ $a $b)
|`(XB $a)=>`(@ao _ _ _ $a)
|`(XC $a)=>`(@fu _ _ _ _ _ _ $a (by first|exact bE _ (by decide) (by decide)|rfl))
|`(XD $a)=>`(Heap.get?_push_of_some _ $a)
|`(XE $a)=>`(if_neg $a)
|`(XF $a)=>`(List.mem_of_getElem? $a)
|`(XG $a $b)=>`(@aE _ _ _ _ _ $a $b)
|`(XH $a)=>`(if_pos $a)
|`(XI $a $b $c)=>`(@bp _ _ _ _ _ _ _ _ $a $b $c)
|`(XJ $a $b $c)=>`(@bY _ $a _ _ _ _ _ _ _ $b $c (by rfl) (by rfl))
|`(XM $a)=>`(Option.some.inj $a)
set_option hygiene false in
local macro_rules
|`(XN)=>`((by simp))
|`(XO)=>`((fun vs H Q E h=>?_))
|`(XQ)=>`((by omega))
|`(XR)=>`((by lia))
|`(XS)=>`((by exact rfl))
|`(XT)=>`(by omega)
|`(XU)=>`(by decide)
|`(XW)=>`(by rfl)
|`(XX)=>`(by simp)
set_option maxHeartbeats 4000000
namespace HD
open PySem PySem.W PyProof.Rows
noncomputable section
noncomputable abbrev pw:Program:=PySem.Challenge.pw_quotefind_k19_all_found
noncomputable abbrev pq:Program:=pw
theorem TQ:pw=pq:=rfl
def z0:Str:=⟨⟨[60,109,111,100,117,108,101,62]⟩⟩
def z1:Str:=⟨⟨[95,95,109,97,105,110,95,95]⟩⟩
def Rx:Str:=⟨⟨[47,99,108,97,105,109,47,99,117,116,46,112,121]⟩⟩
noncomputable abbrev y0:String:=PySem.W.SL.s658472552662922059x5
noncomputable abbrev TU:String:=PySem.W.SL.s5856160107412720595x4
noncomputable abbrev R(a:Addr):Value:= .ref a
noncomputable abbrev I(i:Int):Value:= .int i 0
noncomputable abbrev N:Value:= .none
noncomputable abbrev U(v:Value):Option Value:=some v
noncomputable abbrev B:=BT.node
noncomputable abbrev L:=BT.nil
noncomputable abbrev tu(l:List Value):Obj:=⟨.type "tuple",none, .seq ⟨l⟩ 0,⟨[]⟩⟩
noncomputable abbrev fi(l:List Value):Obj:=⟨.none,none, .fields ⟨l⟩,⟨[]⟩⟩
noncomputable abbrev cd(n:Str)(t:Nat)(l a f:Int)(r8:Addr)(b:Bool)(TX:Addr)(TY T8 T9:Value)(t3:Int)(t4:Nat):Obj:=⟨.type TU,none, .fields ⟨[.str n t, .str n (t+1), .str Rx (t+2),I l,I a,I 0,I 0,I f,R r8, .bool b,I 181,R TX,N,TY,T8,T9,I t3,I l, .str Rx t4]⟩,⟨[]⟩⟩
noncomputable def tp(p:Program)(i:Nat):Stmt:=p.main.body.getD i (.Pass ⟨0,0,0,0⟩)
noncomputable def b0(_:Program)(P:Params):Obj:=PySem.W.boot_o_0 P
noncomputable def b1(_:Program)(P:Params):Obj:=PySem.W.boot_o_1 P
noncomputable def b2(_:Program)(P:Params):Obj:=PySem.W.boot_o_2 P
noncomputable def b3(_:Program)(P:Params):Obj:=PySem.W.boot_o_3 P
noncomputable def b4(_:Program)(P:Params):Obj:=PySem.W.boot_o_4 P
noncomputable def b5(_:Program)(P:Params):Obj:=PySem.W.boot_o_5 P
noncomputable def b6(_:Program)(P:Params):Obj:=PySem.W.boot_o_6 P
noncomputable def b7(_:Program)(P:Params):Obj:=PySem.W.boot_o_7 P
noncomputable def b8(_:Program)(P:Params):Obj:=PySem.W.boot_o_8 P
noncomputable def b9(_:Program)(P:Params):Obj:=PySem.W.boot_o_9 P
noncomputable def Ry(_:Program)(P:Params):Obj:=PySem.W.boot_o_10 P
noncomputable def Rz(p:Program)(P:Params):Obj:=tu []
noncomputable def RA(p:Program)(P:Params):Obj:=fi []
noncomputable def RB(p:Program)(P:Params):Obj:=cd z0 182 1 0 0 11 false 12 N N N 185 186
noncomputable def RD(p:Program)(P:Params):Obj:=⟨(.type y0),none,.plain,⟨[U (R 13),U (R 3),U (R 3),none,U (.str z1 164),none,U (R 0)]⟩⟩
noncomputable def La(p:Program)(P:Params):List Obj:=[b0 p P,b1 p P,b2 p P,b3 p P,b4 p P,b5 p P,b6 p P,b7 p P,b8 p P,b9 p P,Ry p P,Rz p P,RA p P,RB p P,RD p P]
noncomputable def Ta(p:Program)(P:Params):BT:=(B (b0 p P) (B (b1 p P) (B (b3 p P) (B (b7 p P) L L) (B (Rz p P) L L)) (B (b5 p P) (B (b9 p P) L L) (B (RB p P) L L))) (B (b2 p P) (B (b4 p P) (B (b8 p P) L L) (B (RA p P) L L)) (B (b6 p P) (B (Ry p P) L L) (B (RD p P) L L))))
noncomputable def keep:List Nat:=[0,2,3,4,5,7,8,9,11,12,13,14,16,17,19,20,21,22,23,24,25,27,28,29,31,32,33,34,35,36,37,38,40,41,42,43,44,45,46,47,48,49,50,51,52,53,54,55,56]
noncomputable def loose:List Str:=[]
noncomputable def env(p:Program):Env:={scope:=p.main.scope,locals:=mainNs,globals:=mainNs,cells:=[],code:=(R 13),frame:=some 14}
noncomputable def cE(p:Program):Code:= .body (behindTheImports p) (env p)
noncomputable def qP:Pos:=⟨0,0,0,0⟩
noncomputable def pP:Pos:=⟨0,0,0,0⟩
noncomputable def bP:Pos:=⟨0,0,0,0⟩
noncomputable def fP:Pos:=⟨388,0,403,15⟩
noncomputable def an:Option Value:=(some (R 6))
noncomputable abbrev K0:Nat:=56
noncomputable abbrev m0:Nat:=11
noncomputable abbrev K1:Nat:=12
noncomputable abbrev K2:Nat:=1
noncomputable abbrev HE:Nat:=3677
noncomputable abbrev HF:Nat:=2
noncomputable abbrev HH:Nat:=8078
noncomputable abbrev nA:Nat:=15
noncomputable abbrev T_:Nat:=187
noncomputable abbrev Ua:Nat:=187
end
end HD
namespace HD
open PySem PySem.W PyProof.Rows
noncomputable section
abbrev S0(w:World)(os:OsState):Shared:=⟨boot_heap w.params,⟨[]⟩,boot_drawn,boot_toks,os⟩
abbrev Sa(p:Program)(w:World)(os:OsState):Shared:=⟨⟨⟨La p w.params⟩,{}⟩,⟨[]⟩,{},T_,os⟩
abbrev Sb(p:Program)(w:World)(os:OsState):SharedT:=⟨Ta p w.params,nA,{},⟨[]⟩,{},Ua,os⟩
abbrev q(p:Program):Program:=view p keep
abbrev Xt(p:Program)(R:WRecords):Shared→Bool:=fun s=>xlAt (q p) [] s&&recOk R s
theorem K3(w:World)(os:OsState):topGo treeTable pq w m0 an K1 (S0 w os) (topStub pq)=some (Sa pq w os,⟨denote treeTable (cE pq),cE pq,pP,[topFrame qP]⟩):=by
 rewrite[Fast.te15667345088766844465,Fast.te14364793385576792824,Fast.te11892475500146522536];kernel_rfl
theorem K4(w:World)(os:OsState):segRun treeTable pq w m0 an 1 K2 (Sa pq w os) (blockOf (behindTheImports pq) (env pq) (cE pq) pP [topFrame qP])=some (.next,(Sb pq w os).abs,cE pq,bP):=by
 rewrite[Fast.te14374325043358763698,Fast.te14364793385576792824];kernel_rfl
def Rm(w:World)(os:OsState):=Fast.tw10110043849684766642 Fast.tw14364793385576792824 pq w m0 an 1 HE (Sb pq w os) (piecesOf (behindTheImports pq) (env pq) (cE pq) bP [topFrame qP])
def Sm(w:World)(os:OsState):SharedT:=match Rm w os with|some (_,s,_,_)=>s|none=>Sb pq w os
theorem K5(w:World)(os:OsState):segRunT treeTable pq w m0 an 1 HE (Sb pq w os) (piecesOf (behindTheImports pq) (env pq) (cE pq) bP [topFrame qP])=some (.next,Sm w os,cE pq,fP):=by
 rewrite[Fast.te10110043849684766642,Fast.te14364793385576792824];kernel_rfl
def Rf(w:World)(os:OsState):=Fast.tw14082659384304107361 Fast.tw14364793385576792824 pq w m0 an HF (Sm w os).abs ⟨doneF .next,cE pq,fP,[topFrame qP]⟩
def Sf(w:World)(os:OsState):Shared:=match Rf w os with|some s=>s|none=>S0 w os
theorem K6(w:World)(os:OsState):topRun treeTable pq w m0 an HF (Sm w os).abs ⟨doneF .next,cE pq,fP,[topFrame qP]⟩=some (Sf w os):=by
 rewrite[Fast.te14082659384304107361,Fast.te14364793385576792824];kernel_rfl
theorem HI(w:World):((boot_heap w.params).isNs mainGlobals&&(⟨[]⟩:Array GenState).size==0,(boot_heap w.params).objs.size,(boot_heap w.params).nsMap mainGlobals "__annotations__")=(true,m0,an):=by
 rewrite[Fast.te8920871248978507458];kernel_rfl
theorem HJ:∀w:World,(fencedOpening treeTable pq w HH).map (fun s=>(s.heap,s.gens,s.drawn,s.toks))=some (boot_heap w.params,⟨[]⟩,boot_drawn,boot_toks):=
 boot_open (by kernel_rfl) (by kernel_rfl) (fun s=>by kernel_rfl)
theorem K7(w:World)(os:OsState):topRun treeTable pq w m0 an (K1+(K2+(HE+HF))) (S0 w os) (topStub pq)=some (Sf w os):=by
 refine go_top (K3 w os) (piece_block (K4 w os) ?_);have h:=piece_app (rest:=[]) (segRun_of (K5 w os)) (piece_nil (env:=env pq) (K6 w os));rw[List.append_nil]at h;exact h
theorem Cg(w:World)(os:OsState):
 (staticsOk (importedModules pq.main.body) (boot_heap w.params) (Sf w os).heap&&namesBound pq (Sf w os).heap&&gensDone (Sf w os)&&laidKept (boot_heap w.params) (Sf w os).heap)=true
 ∧seen ((recsOf (q pq)).map (·.name)) (ownsOf (q pq)) [] {Sf w os with gens:=#[]}=expectedOf (q pq)
 ∧(Sf w os).heap.bltView=bltViewBooted:=by
 refine⟨?_,?_,?_⟩
 ·rewrite[Fast.te5923862056798008813];kernel_rfl
 ·rewrite[Fast.te5160383126252970620,Fast.te3399658132070893891,Fast.te5991557255702980513];kernel_rfl
 ·kernel_rfl
theorem HK(w:World)(os:OsState):
 ((Sf w os).heap.keysOk (looseW (q pq) loose) ((recsOf (q pq)).map (·.name)) ((litsOf (q pq)).map (·.1)) ((clssOf (q pq) (looseW (q pq) loose)).map (·.name))&&(Sf w os).heap.accountedOkI (importedModules pq.main.body)&&(Sf w os).heap.isNs mainGlobals&&(Sf w os).heap.isNs builtinsNs&&tablesOk (q pq) (Sf w os).heap&&Xt pq [] (Sf w os)&&(if true then(Sf w os).gens.size==0 else !leftWithCleanup (Sf w os).gens))=true:=by
 rewrite[Fast.te10880121769531294198,Fast.te821141287760084731,Fast.te3399658132070893891,Fast.te7409074990110511671,Fast.te13664370479719496447,Fast.te14722251495701143533,Fast.te5923862056798008813,Fast.te10994771534591457954];kernel_rfl
theorem HL(w:World)(os:OsState):
 tabsOk (q pq) (Sf w os)=true
 ∧pinSeenD (q pq) (drecsOf (q pq)) (Sf w os)=pinGoodD (drecsOf (q pq))
 ∧plainSeenE (q pq) (looseW (q pq) loose) (Sf w os)=plainGoodE (q pq) (looseW (q pq) loose)
 ∧plainSeenD (q pq) loose (Sf w os)=plainGoodD (q pq) loose
 ∧wideSeen (q pq) (Sf w os)=wideGood (q pq)
 ∧clsSeenW (q pq) loose (Sf w os)=clsGoodW (q pq) loose:=by
 refine⟨?_,?_,?_,?_,?_,?_⟩
 ·rewrite[Fast.te479339242167458305];kernel_rfl
 ·rewrite[Fast.te16090120013241838585,Fast.te3247288618530077131];kernel_rfl
 ·rewrite[Fast.te2386780881361962483,Fast.te821141287760084731];kernel_rfl
 ·rewrite[Fast.te11698064438423848299];kernel_rfl
 ·rewrite[Fast.te7317090234206586261];kernel_rfl
 ·rewrite[Fast.te7369524293546568484];kernel_rfl
theorem lx{p q:Program}{lo:List Str}{Xt:Shared→Bool}{α:Type}{Yf:Shared→α}{a:α}{w:World}{N M n:Nat}{h:Heap}{gs:Array GenState}{dr:Drawn}{k:Nat}{an:Option Value}{g:OsState→Shared}
  (o:(fencedOpening treeTable p w N).map (fun s=>(s.heap,s.gens,s.drawn,s.toks))=some (h,gs,dr,k)) (z:(h.isNs mainGlobals&&gs.size==0,h.objs.size,h.nsMap mainGlobals "__annotations__")=(true,n,an))
  (r:∀os,topRun treeTable p w n an M ⟨h,gs,dr,k,os⟩ (topStub p)=some (g os)) (le:M≤N) (x1:∀os,(staticsOk (importedModules p.main.body) h (g os).heap&&namesBound p (g os).heap&&gensDone (g os)&&laidKept h (g os).heap)=true)
  (x2:∀os,openSeen q lo (importedModules p.main.body) Xt true (g os)=openGood q lo) (x3:∀os,Yf (g os)=a):(openEnds treeTable p w N).map (fun s=>(openSeen q lo (importedModules p.main.body) Xt true s,Yf s))=some (openGood q lo,a):=by
 obtain⟨⟨h,gs,dr,k,os⟩,e1,e2⟩:=Option.map_eq_some_iff.mp o;cases e2;obtain⟨y1,y2⟩:=Prod.mk.inj z;obtain⟨y2,y3⟩:=Prod.mk.inj y2;have t:=topRun_mono (N-M) _ _ _ _ (r os);rw[Nat.add_sub_cancel' le]at t;have f:topFrom treeTable p w N ⟨h,gs,dr,k,os⟩=some (g os):=by
  unfold topFrom;dsimp only;rw[y1,y2,y3,t];show(match staticsOk _ h (g os).heap&&namesBound p (g os).heap&&gensDone (g os)&&laidKept h (g os).heap with|true=>_|false=>_)=_;rw[x1 os]
 unfold openEnds;rw[e1,Option.bind_some,f];exact congrArg some (Prod.ext (x2 os) (x3 os))
theorem left(p:Program)(e:p=pq)(H:Hook)(hk:∀w os,H.obs (Sf w os)=H.val w):LeftO p (q p) loose (Xt p []) H.obs H.val HH:=by
 subst e;intro w;exact lx (g:=Sf w) (HJ w) (HI w) (K7 w) (XU) (fun os=>(Cg w os).1) (fun os=>let ⟨_,x2,x3⟩:=Cg w os;let ⟨x5,x6,x7,x8,x9,x0⟩:=HL w os;looks_pair x2 (looks_pair x3 (looks_pair (HK w os) (looks_pair x5 (looks_pair x6 (looks_pair x7 (looks_pair x8 (looks_pair x9 x0)))))))) (hk w)
def d:DefRec:=match tp pw K0 with
 | .FunctionDef n a b _ _ _ sc _ _ ps=>⟨n,a,b,sc,ps⟩
 | _=>⟨Str.empty,default,[],default,default⟩
end
end HD
namespace HD
theorem ws:PySem.W.OpenLaw.wellSaid PySem.Challenge.rw_quotefind_k19_all_found=true:=by
 rewrite[PySem.W.Fast.te9446332074065402090];kernel_rfl
end HD
namespace L2
open PySem PySem.Spec PyProof.Rows
abbrev Key:=Sum Int Str
def t8:Key→Value→Bool
 | .inl k,v=>Value.isInt k v
 | .inr x,v=>Value.isStrOf x v
def OI(w:World):Key→Int
 | .inl k=>hashInt k
 | .inr x=>hashStr w x
theorem cP:∀{k:Key}{v:Value},t8 k v=true→(∃i t,k=Sum.inl i∧v=Value.int i t)∨(∃x t,k=Sum.inr x∧v=Value.str x t)
 | .inl i,v,h=>by
  obtain⟨t,e⟩:=Value.isInt_shape (k:=i) (v:=v) h;exact .inl ⟨i,t,rfl,e⟩
 | .inr x,v,h=>by
  obtain⟨t,e⟩:=Value.isStrOf_shape (x:=x) (v:=v) h;exact .inr ⟨x,t,rfl,e⟩
theorem AO(i:Int)(t:Tok):t8 (.inl i) (.int i t)=true:=by simp[t8,Value.isInt]
theorem AQ(x:Str)(t:Tok):t8 (.inr x) (.str x t)=true:=by simp[t8,Value.isStrOf]
theorem HM(a b:Int):decide ((Sum.inl a:Key)=Sum.inl b)=(a==b):=by
 by_cases e:a=b
 ·subst e;simp
 ·have h:¬(Sum.inl a:Key)=Sum.inl b:=fun q=>e (Sum.inl.inj q)
  rw[decide_eq_false h];exact(beq_eq_false_iff_ne.mpr e).symm
theorem HN(a b:Str):decide ((Sum.inr a:Key)=Sum.inr b)=decide (a=b):=by
 by_cases e:a=b
 ·subst e;simp
 ·have h:¬(Sum.inr a:Key)=Sum.inr b:=fun q=>e (Sum.inr.inj q)
  rw[decide_eq_false h,decide_eq_false e]
theorem HP(a:Int)(b:Str):decide ((Sum.inl a:Key)=Sum.inr b)=false:=decide_eq_false (fun q=>nomatch q)
theorem HQ(a:Str)(b:Int):decide ((Sum.inr a:Key)=Sum.inl b)=false:=decide_eq_false (fun q=>nomatch q)
def cQ(prog:Program)(w:World):PySem.KeyKind prog w Key where
 is:=t8
 hash:=OI w
 inj:=fun v a b ha hb=>by
  rcases cP ha with⟨i,t,rfl,rfl⟩|⟨x,t,rfl,rfl⟩
  ·rcases cP hb with⟨j,u,rfl,e⟩|⟨y,u,rfl,e⟩
   ·injection e with e1 _;rw[e1]
   ·exact nomatch e
  ·rcases cP hb with⟨j,u,rfl,e⟩|⟨y,u,rfl,e⟩
   ·exact nomatch e
   ·injection e with e1 _;rw[e1]
 byValue:=fun k v h=>by
  rcases cP h with⟨i,t,rfl,rfl⟩|⟨x,t,rfl,rfl⟩<;>rfl
 pyHash:=fun hv h=>by
  rcases cP hv with⟨i,t,rfl,rfl⟩|⟨x,t,rfl,rfl⟩
  ·exact wpAny_pyHash_int h
  ·exact wpAny_pyHash_str h
 eqBool:=fun hu hv h=>by
  rcases cP hu with⟨i,t,rfl,rfl⟩|⟨x,t,rfl,rfl⟩
  ·rcases cP hv with⟨j,u,rfl,rfl⟩|⟨y,u,rfl,rfl⟩
   ·rw[HM]at h;exact wpAny_eqBool_int h
   ·rw[HP]at h;exact SeqAt.EqAt.int_str i t y u _ _ _ _ h
  ·rcases cP hv with⟨j,u,rfl,rfl⟩|⟨y,u,rfl,rfl⟩
   ·rw[HQ]at h;exact SeqAt.EqAt.str_int x t j u _ _ _ _ h
   ·rw[HN]at h;exact wpAny_eqBool_str h
 «strs»:=fun k x t v h=>by
  rcases cP h with⟨i,u,rfl,e⟩|⟨y,u,rfl,e⟩
  ·exact nomatch e
  ·injection e with e1 _;subst e1;cases v<;>rfl
theorem wJ(prog:Program)(w:World)(i:Int)(t:Tok):(cQ prog w).is (.inl i) (.int i t)=true:=AO i t
theorem wK(prog:Program)(w:World)(x:Str)(t:Tok):(cQ prog w).is (.inr x) (.str x t)=true:=AQ x t
inductive V where
 |cJ|bl (b:Bool)|int (i:Int)|str (x:Str)|AR (b:Array UInt8)|Gr (b:UInt64)|ref (a:Addr)|ty (n:String)
 deriving DecidableEq
def RelV:V→Value→Prop
 | .cJ,u=>u=Value.none
 | .bl b,u=>u=Value.bool b
 | .int i,u=>∃t,u=Value.int i t
 | .str x,u=>∃t,u=Value.str x t
 | .AR b,u=>∃t,u=Value.bytes b t
 | .Gr b,u=>∃t,u=Value.float b t
 | .ref a,u=>u=Value.ref a
 | .ty n,u=>u=Value.type n
abbrev Vals:List V→List Value→Prop:=Paired RelV
theorem Vals.length{xs:List V}{us:List Value}(r:Vals xs us):xs.length=us.length:=Paired.length r
theorem Vals.get:∀{xs:List V}{us:List Value}{i:Nat}{x:V},Vals xs us→xs[i]?=some x→∃u,us[i]?=some u∧RelV x u
 | _,_,_,_, .nil,e=>by simp at e
 | _,_,0,_, .cons r _,e=>by simp at e;subst e;exact⟨_,rfl,r⟩
 | _,_,i+1,x, .cons _ t,e=>by
  obtain⟨u,h1,h2⟩:=Vals.get (i:=i) (x:=x) t (by simpa using e);exact⟨u,by simpa using h1,h2⟩
theorem Vals.set{x:V}{u:Value}(r:RelV x u):∀{xs:List V}{us:List Value}(i:Nat),Vals xs us→Vals (xs.set i x) (us.set i u)
 | _,_,_, .nil=> .nil
 | _,_,0, .cons _ t=> .cons r t
 | _,_,i+1, .cons q t=> .cons q (Vals.set r i t)
theorem Vals.append:∀{xs ys:List V}{us ws:List Value},Vals xs us→Vals ys ws→Vals (xs++ys) (us++ws)
 | _,_,_,_, .nil,s=>s
 | _,_,_,_, .cons r t,s=> .cons r (Vals.append t s)
theorem Vals.take:∀{xs:List V}{us:List Value}(n:Nat),Vals xs us→Vals (xs.take n) (us.take n)
 | _,_,0,_=> .nil
 | _,_,_+1, .nil=> .nil
 | _,_,n+1, .cons r t=> .cons r (Vals.take n t)
theorem Vals.drop:∀{xs:List V}{us:List Value}(n:Nat),Vals xs us→Vals (xs.drop n) (us.drop n)
 | _,_,0,r=>r
 | _,_,_+1, .nil=> .nil
 | _,_,n+1, .cons _ t=>Vals.drop n t
def jQ:Option V→Option Value→Prop
 |some v,some u=>RelV v u
 |none,none=>True
 | _,_=>False
def KV{κ:Type}:List (κ×V)→List (κ×Value)→Prop:=Paired fun(p:κ×V)(q:κ×Value)=>p.1=q.1∧RelV p.2 q.2
def kV:Key→V
 | .inl i=> .int i
 | .inr x=> .str x
inductive HO where
 |lst (xs:List V)
 |tup (xs:List V)
 |dK (kvs:List (Key×V))|dT (kvs:List (List Key×V))
 |set (S:Int→Bool) (n:Nat)
 |ins (C dx:Addr) (fs:List (Str×V))
 |own (x:Addr)
 |xd (fs:List (Str×V))
 |met (f x:Addr)
 |Nu (lo hi:Int)
 |qS (o:Obj) (u:HO)
 |EJ (ps:Array Value)
 |ext (φ:Heap→Prop)
abbrev Hp:=Addr→Option HO
def upd(H:Hp)(a:Addr)(o:HO):Hp:=fun b=>if b=a then some o else H b
theorem ae{H:Hp}{a:Addr}{o:HO}:upd H a o a=some o:=by unfold upd;rw[if_pos rfl]
theorem aj{H:Hp}{a b:Addr}{o:HO}(h:b≠a):upd H a o b=H b:=by unfold upd;rw[XE h]
theorem fJ{H:Hp}{a:Addr}{o u:HO}:upd (upd H a o) a u=upd H a u:=by
 funext b;unfold upd;split<;>rfl
theorem iC{H:Hp}{a b:Addr}{o u:HO}(h:H a=some o)(h':H b=some u)(d:o≠u):a≠b:=by
 intro e;subst e;rw[h]at h';exact d (XM h')
theorem aA{H:Hp}{a b:Addr}{o:HO}(h:H a=some o)(h':H b=none):a≠b:=by
 intro e;subst e;rw[h]at h';cases h'
section
variable(P:Program)(w:World)
def cK(H:Hp)(h:Heap)(a:Addr):HO→Prop
 | .lst xs=>xs.length≤sizeLine∧∃(its:List Value)(n:Nat),Vals xs its∧h.get? a=some {cls:= .type "list",data:= .seq its.toArray n}
 | .tup xs=>xs.length≤sizeLine∧∃its:List Value,Vals xs its∧IsTup h a its.toArray
 | .dK kvs=>kvs.length≤sizeLine∧(a==sysModules)=false∧∃vs,KV kvs vs∧h.DictOf (cQ P w) a vs
 | .dT kvs=>kvs.length≤sizeLine∧(a==sysModules)=false∧∃xs:List (List Key×Addr×Value),
   Paired (fun(p:List Key×V)(q:List Key×Addr×Value)=>p.1=q.1∧H q.2.1=some (.tup (p.1.map kV))∧RelV p.2 q.2.2) kvs xs∧
   ∃o es ep,h.get? a=some o∧o.ExactDict∧o.data= .dict es ep∧es.toList=xs.map (entryOfKey (tupleKind (cQ P w)))∧(xs.map (·.1)).Nodup
 | .set S n=>h.SetOf (intKind P w) a S n
 | .ins C dx fs=>H dx=some (.own a)∧fs.length≤1000∧dx≠a∧h.get? a=some (PySem.W.instObj C dx)∧
   ∃mA,h.Ns1 dx mA∧(∀f,jQ (fs.lookup f) (mA f))∧PySem.Within mA (fs.map (·.1))
 | .own _=>∃o,h.get? a=some o
 | .xd fs=>∃mA,h.Ns1 a mA∧∀f,jQ (fs.lookup f) (mA f)
 | .Nu lo hi=>∃t u v,h.get? a=some {cls:= .type "range",data:= .fields #[.int lo t, .int hi u, .int 1 v]}
 | .qS o u=>h.get? a=some o∧cK H h a u
 | .EJ ps=>h.get? a=some {cls:= .none,data:= .fields ps}
 | .met f x=>h.get? a=some (PySem.W.methodObj (.ref f) (.ref x))
 | .ext φ=>φ h∧(∃o,h.get? a=some o)∧∀h1 h2:Heap,φ h1→(∀o,h1.get? a=some o→h2.get? a=some o)→φ h2
def kE(H:Hp)(h:Heap):Prop:=∀a o,H a=some o→cK P w H h a o
end
section
variable{P:Program}{w:World}{H H':Hp}{h h':Heap}{a:Addr}{o:HO}
theorem cK.lt(x:cK P w H h a o):a<h.objs.size:=by
 cases o with
 |lst xs=>obtain⟨_,_,_,_,e⟩:=x;exact Heap.lt_size e
 |tup xs=>obtain⟨_,_,_,p⟩:=x;exact p.lt
 |dK kvs=>obtain⟨_,_,_,_,o,_,_,e,_⟩:=x;exact Heap.lt_size e
 |dT kvs=>obtain⟨_,_,_,_,o,_,_,e,_⟩:=x;exact Heap.lt_size e
 |set S n=>obtain⟨o,_,_,_,e,_⟩:=x;exact Heap.lt_size e
 |ins C dx fs=>obtain⟨_,_,_,e,_⟩:=x;exact Heap.lt_size e
 |own y=>obtain⟨_,e⟩:=x;exact Heap.lt_size e
 |xd fs=>obtain⟨_,⟨_,_,_,e,_⟩,_⟩:=x;exact Heap.lt_size e
 |Nu lo hi=>obtain⟨_,_,_,e⟩:=x;exact Heap.lt_size e
 |qS ob u=>obtain⟨e,_⟩:=x;exact Heap.lt_size e
 |EJ ps=>exact Heap.lt_size (show h.get? a=some _ from x)
 |met f y=>exact Heap.lt_size (show h.get? a=some _ from x)
 |ext φ=>obtain⟨_,⟨_,e⟩,_⟩:=x;exact Heap.lt_size e
theorem Paired.HR{α β:Type}{F G:α→β→Prop}:∀{K8:List α}{K9:List β},Paired F K8 K9→(∀a b,F a b→G a b)→Paired G K8 K9
 | _,_, .nil,_=> .nil
 | _,_, .cons r t,f=> .cons (f _ _ r) (Paired.HR t f)
theorem cK.uK(x:cK P w H h a o)(k:∀b u,(b=a∨H b=some (.own a))→h.get? b=some u→h'.get? b=some u)
  (ho:∀b,H b=some (.own a)→H' b=some (.own a)) (ht:∀b xs,H b=some (.tup xs)→H' b=some (.tup xs)):cK P w H' h' a o:=by
 induction o with
 |lst xs=>obtain⟨z,its,n,r,e⟩:=x;exact⟨z,its,n,r,k _ _ (.inl rfl) e⟩
 |tup xs=>obtain⟨z,its,r,ob,e,c⟩:=x;exact⟨z,its,r,ob,k _ _ (.inl rfl) e,c⟩
 |dK kvs=>obtain⟨z,y,vs,r,ob,es,ep,e,c⟩:=x;exact⟨z,y,vs,r,ob,es,ep,k _ _ (.inl rfl) e,c⟩
 |dT kvs=>
  obtain⟨z,y,xs,r,ob,es,ep,e,c⟩:=x;exact⟨z,y,xs,Paired.HR r fun p q z=>⟨z.1,ht _ _ z.2.1,z.2.2⟩,ob,es,ep,k _ _ (.inl rfl) e,c⟩
 |set S n=>obtain⟨ob,es,ep,t,e,c⟩:=x;exact⟨ob,es,ep,t,k _ _ (.inl rfl) e,c⟩
 |ins C dx fs=>
  obtain⟨d,z,ne,e,mA,⟨od,es,ep,e2,c⟩,r⟩:=x;exact⟨ho _ d,z,ne,k _ _ (.inl rfl) e,mA,⟨od,es,ep,k _ _ (.inr d) e2,c⟩,r⟩
 |own y=>obtain⟨ob,e⟩:=x;exact⟨ob,k _ _ (.inl rfl) e⟩
 |xd fs=>obtain⟨mA,⟨od,es,ep,e,c⟩,r⟩:=x;exact⟨mA,⟨od,es,ep,k _ _ (.inl rfl) e,c⟩,r⟩
 |Nu lo hi=>obtain⟨t,u,v,e⟩:=x;exact⟨t,u,v,k _ _ (.inl rfl) e⟩
 |qS ob u ih=>obtain⟨e,q⟩:=x;exact⟨k _ _ (.inl rfl) e,ih q⟩
 |EJ ps=>
  have e:h.get? a=some {cls:= .none,data:= .fields ps}:=x;show h'.get? a=some {cls:= .none,data:= .fields ps};exact k a _ (.inl rfl) e
 |met f y=>
  have e:h.get? a=some (PySem.W.methodObj (.ref f) (.ref y)):=x;show h'.get? a=some (PySem.W.methodObj (.ref f) (.ref y));exact k a _ (.inl rfl) e
 |ext φ=>obtain⟨p,⟨o,e⟩,st⟩:=x;exact⟨st _ _ p fun o q=>k _ _ (.inl rfl) q,⟨o,k _ _ (.inl rfl) e⟩,st⟩
theorem kE.lt(x:kE P w H h)(e:H a=some o):a<h.objs.size:=(x a o e).lt
theorem kE.fresh(x:kE P w H h)(e:h.objs.size≤a):H a=none:=by
 cases q:H a with
 |none=>rfl
 |some u=>exact absurd (Nat.lt_of_lt_of_le (x.lt q) e) (Nat.lt_irrefl _)
theorem kE.kept(x:kE P w H h)(k:∀b u,h.get? b=some u→h'.get? b=some u):kE P w H h':=fun a o e=>
 (x a o e).uK (fun b u _ q=>k b u q) (fun _ q=>q) fun _ _ q=>q
theorem kE.laid(x:kE P w H h)(k:∀b u,h.get? b=some u→h'.get? b=some u)(hp:h.objs.size≤a)(new:cK P w (upd H a o) h' a o):kE P w (upd H a o) h':=fun b u e=>by
 have hn:=x.fresh hp;by_cases hb:b=a
 ·subst hb;rw[ae]at e;cases e;exact new
 ·rw[aj hb]at e;exact(x b u e).uK (fun c v _ q=>k c v q) (fun c q=>by rw[aj (aA q hn)];exact q) fun c xs q=>by rw[aj (aA q hn)];exact q
end
def Rd(H:Hp)(a:Addr)(u:HO):Prop:=H a=some u∨∃o,H a=some (.qS o u)
theorem Rd.of{H:Hp}{a:Addr}{u:HO}(h:H a=some u):Rd H a u:= .inl h
theorem Rd.ok{P:Program}{w:World}{H:Hp}{h:Heap}{a:Addr}{u:HO}(r:Rd H a u)(x:kE P w H h):cK P w H h a u:=by
 rcases r with r|⟨o,r⟩
 ·exact x a u r
 ·obtain⟨_,q⟩:=x a _ r;exact q
def K_:Option HO→Prop
 |some (.lst _)=>True
 |some (.dK _)=>True
 |some (.dT _)=>True
 |some (.set _ _)=>True
 |some (.ins _ _ _)=>True
 |some (.ext _)=>True
 | _=>False
section
variable{P:Program}{w:World}{H:Hp}{h h':Heap}{x e:Addr}{o':HO}
theorem kE.write(ok:kE P w H h)(mu:K_ (H x))(he:e=x∨H e=some (.own x))(k:∀b u,b≠e→h.get? b=some u→h'.get? b=some u)(Kh:∃u,h'.get? e=some u)
  (new:cK P w (upd H x o') h' x o'):kE P w (upd H x o') h':=fun b u q=>by
 have K':∀c y,H c=some (.own y)→c≠x:=fun c y r z=>by subst z;rw[r]at mu;exact mu
 have OJ:∀c xs,H c=some (.tup xs)→c≠x:=fun c xs r z=>by subst z;rw[r]at mu;exact mu
 by_cases hb:b=x
 ·subst hb;rw[ae]at q;cases q;exact new
 ·rw[aj hb]at q;by_cases HS:b=e
  ·have q':H b=some (.own x):=by
    rcases he with z|z
    ·exact absurd (HS.trans z) hb
    ·rw[HS];exact z
   rw[q]at q';cases q';obtain⟨v,hv⟩:=Kh;exact⟨v,by rw[HS];exact hv⟩
  ·refine(ok b u q).uK (fun c v hc r=>k c v ?_ r) (fun c r=>by rw[aj (K' c b r)];exact r) fun c xs r=>by rw[aj (OJ c xs r)];exact r
   rcases hc with rfl|hc
   ·exact HS
   ·rintro rfl;rcases he with z|z
    ·exact K' c b hc z
    ·rw[hc]at z;cases z;exact hb rfl
end
structure Un(fs ex:List Addr)(H H':Hp)(h h':Heap):Prop where
 keep:∀b o,h.get? b=some o→H b=none→b∉fs→b∉ex→h'.get? b=some o
 slot:∀b o,h.get? b=some o→H b=none→b∈fs→b∉ex→∃sl,h'.get? b=some {o with slots:=sl}
 free:∀b o,h.get? b=some o→H b=none→b∉ex→H' b=none
 there:∀b o,h.get? b=some o→b∉ex→∃o',h'.get? b=some o'
 cF:∀b xs,H b=some (.tup xs)→H' b=some (.tup xs)
 m4:∀b o u,H b=some (.qS o u)→H' b=some (.qS o u)
 qz:∀b ps,H b=some (.EJ ps)→∃more,H' b=some (.EJ (ps++more))
section
variable{fs Ub ex WK:List Addr}{H H1 H2:Hp}{h h1 h2 h':Heap}{a x e:Addr}{o:HO}
theorem Un.any(u:Un fs ex H H1 h h1){b:Addr}{ob:Obj}(q:h.get? b=some ob)(n:H b=none)(hx:b∉ex):∃sl,h1.get? b=some {ob with slots:=sl}:=by
 by_cases hb:b∈fs
 ·exact u.slot b ob q n hb hx
 ·exact⟨ob.slots,u.keep b ob q n hb hx⟩
theorem Un.kept(k:∀b u,h.get? b=some u→h'.get? b=some u):Un fs ex H H h h':=
 ⟨fun b ob q _ _ _=>k b ob q,fun b ob q _ _ _=>⟨ob.slots,k b ob q⟩,fun _ _ _ n _=>n,fun b ob q _=>⟨ob,k b ob q⟩,fun _ _ q=>q,fun _ _ _ q=>q,fun _ ps q=>⟨#[],by rw[q];simp⟩⟩
theorem Un.refl:Un fs ex H H h h:=Un.kept fun _ _ q=>q
theorem Un.laid(k:∀b u,h.get? b=some u→h'.get? b=some u)(hp:h.objs.size≤a)(hn:H a=none):Un fs ex H (upd H a o) h h' where
 keep:=fun b u q _ _ _=>k b u q
 slot:=fun b u q _ _ _=>⟨u.slots,k b u q⟩
 free:=fun b u q n _=>by rw[aj (Nat.ne_of_lt (Nat.lt_of_lt_of_le (Heap.lt_size q) hp))];exact n
 there:=fun b u q _=>⟨u,k b u q⟩
 cF:=fun b xs q=>by rw[aj (aA q hn)];exact q
 m4:=fun b u xs q=>by rw[aj (aA q hn)];exact q
 qz:=fun b ps q=>⟨#[],by rw[aj (aA q hn),q];simp⟩
theorem Un.write(mu:K_ (H x))(he:e=x∨H e=some (.own x))(k:∀b u,b≠e→h.get? b=some u→h'.get? b=some u)(Kh:∃u,h'.get? e=some u):Un fs ex H (upd H x o) h h':=by
 have hx:∀b,H b=none→b≠x:=fun b n z=>by subst z;rw[n]at mu;exact mu
 have hb:∀b,H b=none→b≠e:=fun b n z=>by
  subst z;rcases he with r|r
  ·exact hx b n r
  ·rw[n]at r;cases r
 have hm:∀b u,H b=some u→¬K_ (some u)→b≠x:=fun b u q nm z=>by subst z;rw[q]at mu;exact nm mu
 refine⟨fun b u q n _ _=>k b u (hb b n) q,fun b u q n _ _=>⟨u.slots,k b u (hb b n) q⟩,fun b u q n _=>by rw[aj (hx b n)];exact n,fun b u q _=>?_,
  fun b xs q=>by rw[aj (hm b _ q fun z=>z)];exact q,fun b u xs q=>by rw[aj (hm b _ q fun z=>z)];exact q,fun b ps q=>⟨#[],by rw[aj (hm b _ q fun z=>z),q];simp⟩⟩
 by_cases HS:b=e
 ·subst HS;exact Kh
 ·exact⟨u,k b u HS q⟩
end
def Nv(h:Heap)(H:Hp):List Addr:=(List.range h.objs.size).filter fun a=>(H a).isSome
def uL(h:Heap)(H:Hp):Heap:=PySem.W.hideAll h (Nv h H)
theorem AS(h:Heap)(H:Hp):(uL h H).objs.size=h.objs.size:=PySem.W.hideAll_size _ _
theorem Ci{h:Heap}{H:Hp}{b:Addr}{o:Obj}(e:h.get? b=some o)(n:H b=none):(uL h H).get? b=some o:=
 PySem.W.hideAll_get _ e fun hm=>by
  have q:(H b).isSome=true:=(List.mem_filter.mp hm).2;rw[n]at q;simp at q
theorem EK{h:Heap}{H:Hp}{b:Addr}{o:Obj}(e:(uL h H).get? b=some o):h.get? b=some o∧H b=none:=by
 have e':h.get? b=some o:=PySem.W.of_hideAll (Nv h H) e;refine⟨e',?_⟩;cases q:H b with
 |none=>rfl
 |some x=>
  have hm:b∈Nv h H:=List.mem_filter.mpr ⟨List.mem_range.mpr (Heap.lt_size e'),by simp[q]⟩;have z:(uL h H).get? b=none:=PySem.W.hideAll_none (Nv h H) hm;rw[z]at e;cases e
def EL(g h:Heap)(L:Addr):List (Addr×Obj):=(List.range h.objs.size).filterMap fun a=>if a=L∨(g.get? a).isSome=true then none else(h.get? a).map fun o=>(a,o)
def rest(g h:Heap)(L d:Addr):List (Addr×Obj):=(EL g h L).filter fun p=>decide (p.1≠d)
structure Mod(K:PySem.W.Frag)(mg:Str→Option Value)(base:Heap):Prop where
 Ki:K.In base
 glob:base.Ns mainGlobals mg
 blt:∃mb,base.Ns builtinsNs mb∧∀x:Str,x≠"__name__"→mb x=bootBuiltins x
 nolimit:base.NoLimit
structure Cx where
 prog:Program
 w:World
 K:PySem.W.Frag
 mg:Str→Option Value
 base:Heap
 A:Around
 N:List Str
 c_:Shared
 eD:Hp
 env:Env
 outer:List Env
 stack:List Env
 ex:List Addr
 fn:Str→Bool
 calm:Bool
 pn:List (Addr×Obj)
 xe:Value→Shared→Prop
def mZ(l:List Env):List Addr:=l.filterMap (·.frame)
abbrev Cx.fs(X:Cx):List Addr:=mZ X.outer
def OL(sc:Scope)(x:Str):Prop:=sc.names.lookup x=some .local∨sc.names.lookup x=some .cell∨sc.names.lookup x=some .free
def Loc(sc:Scope)(x:Str):Prop:=sc.names.lookup x=some .local∨sc.names.lookup x=some .cell
def Look(env:Env)(h:Heap)(m:Str→Option Value)(x:Str)(u:Value):Prop:=
 (env.kindOf x=some .local∧m x=some u)∨((env.kindOf x=some .cell∨env.kindOf x=some .free)∧∃c,env.cells.lookup x=some c∧h.IsCell c (some u))
structure Cx.Ok(X:Cx):Prop where
 mod:Mod X.K X.mg X.base
 kind:X.env.scope.kind= .function
 glob:X.env.globals=mainGlobals
 blt:X.env.builtins=builtinsNs
 above:X.c_.heap.objs.size≤X.env.locals
 inj:∀x y c,X.env.cells.lookup x=some c→X.env.cells.lookup y=some c→x=y
 has:∀x,(X.env.kindOf x=some .cell∨X.env.kindOf x=some .free)→∃c,X.env.cells.lookup x=some c
 OM:∀x c,X.fn x=true→X.env.cells.lookup x=some c→X.c_.heap.objs.size≤c
 hd:X.calm=true→X.A.handled=none
 frames:X.A.frames=some X.stack
 RE:X.stack=X.outer∨(X.stack=X.env::X.outer∧X.env.frame=some X.env.locals)
 WL:∀b∈X.ex,b≠X.env.locals∧∀x c,X.env.cells.lookup x=some c→c≠b
 bs:∀b o,X.base.get? b=some o→X.c_.heap.get? b=some o∧X.eD b=none
 HU:X.base.objs.size≤X.c_.heap.objs.size
 HV:∀b o,X.base.get? b=some o→b∉X.ex
 Lb:∀b∈X.ex,b∉X.fs
 sZ:X.c_.heap.FunFrames X.base X.outer
 Lc:∀b∈X.fs,X.eD b=none
structure Inv(X:Cx)(pins:List (Addr×Obj))(σ:List (Option V))(H:Hp)(s:Shared):Prop where
 ok:X.Ok
 os:s.os=X.c_.os
 bare:AllBare s.gens
 base:Un X.fs X.ex X.eD H X.c_.heap s.heap
 loc:∃m,s.heap.Ns X.env.locals m∧∀(i:Nat)(x:Str)(v:V),X.N[i]?=some x→σ[i]?=some (some v)→OL X.env.scope x→∃u,RelV v u∧Look X.env s.heap m x u
 cell:∀x c,X.env.cells.lookup x=some c→∃v,s.heap.IsCell c v
 free:H X.env.locals=none
 lZ:∀x c,X.env.cells.lookup x=some c→H c=none
 pin:∀p∈X.pn++pins,s.heap.get? p.1=some p.2∧H p.1=none∧p.1≠X.env.locals∧p.1∉X.fs∧∀v,p.2.data≠ .cell v
 bR:kE X.prog X.w H s.heap
 len:σ.length=X.N.length
section
variable{X:Cx}{pins:List (Addr×Obj)}{σ:List (Option V)}{H H':Hp}{s:Shared}{h':Heap}
theorem Cx.Ok.ON(ok:X.Ok){b:Addr}{o:Obj}(e:X.base.get? b=some o):b∉X.fs:=fun hb=>by
 have:=(ok.sZ.mem hb).1;rw[e]at this;cases this
theorem Inv.bs(I:Inv X pins σ H s):∀b o,X.base.get? b=some o→s.heap.get? b=some o∧H b=none:=fun b o e=>
 ⟨I.base.keep b o (I.ok.bs b o e).1 (I.ok.bs b o e).2 (I.ok.ON e) (I.ok.HV b o e),I.base.free b o (I.ok.bs b o e).1 (I.ok.bs b o e).2 (I.ok.HV b o e)⟩
theorem Inv.bk(I:Inv X pins σ H s):∀b o,X.base.get? b=some o→s.heap.get? b=some o:=fun b o e=>(I.bs b o e).1
theorem Inv.mod(I:Inv X pins σ H s):Mod X.K X.mg X.base:=I.ok.mod
theorem Inv.o7(I:Inv X pins σ H s):X.K.In s.heap:=I.ok.mod.Ki.keeps I.bk
theorem Inv.lt(I:Inv X pins σ H s):X.env.locals<s.heap.objs.size:=let ⟨_,hn,_⟩:=I.loc;hn.lt
theorem Inv.sz(I:Inv X pins σ H s):X.c_.heap.objs.size≤s.heap.objs.size:=Nat.le_trans I.ok.above (Nat.le_of_lt I.lt)
theorem Inv.OO(I:Inv X pins σ H s){a:Addr}(h:s.heap.objs.size≤a):a∉X.fs:=fun hb=>by
 obtain⟨_,o,ho,_⟩:=I.ok.sZ.mem hb;exact absurd (Nat.lt_of_lt_of_le (Heap.lt_size ho) (Nat.le_trans I.sz h)) (Nat.lt_irrefl _)
theorem Inv.HW(I:Inv X pins σ H s):∀x c,X.env.cells.lookup x=some c→c≠X.env.locals:=fun x c e z=>by
 obtain⟨v,o,ho,hd⟩:=I.cell x c e;obtain⟨m,⟨o',es,ep,HX,t9,_⟩,_⟩:=I.loc;rw[z,HX]at ho;cases ho;rw[t9]at hd;cases hd
theorem Inv.sZ(I:Inv X pins σ H s):s.heap.FunFrames X.base X.outer:=by
 have all:∀(l:List Env),(∀b∈mZ l,b∈X.fs)→X.c_.heap.FunFrames X.base l→s.heap.FunFrames X.base l:=by
  intro l
  induction l with
  |nil=>intro _ _;trivial
  |cons env r ih=>
   intro hs hl;obtain⟨hk,⟨L,o,hf,hn,ho,hd⟩,hr⟩:=hl;have hL:L∈X.fs:=hs L (by unfold mZ;rw[List.filterMap_cons,hf];exact List.mem_cons_self);obtain⟨sl,e⟩:=I.base.slot L o ho (I.ok.Lc L hL) hL fun z=>I.ok.Lb L z hL
   exact⟨hk,⟨L,_,hf,hn,e,hd⟩,ih (fun b hb=>hs b (by unfold mZ;rw[List.filterMap_cons,hf];exact List.mem_cons_of_mem _ hb)) hr⟩
 exact all X.outer (fun _ hb=>hb) I.ok.sZ
theorem Inv.stack(I:Inv X pins σ H s):s.heap.FunFrames X.base X.stack:=by
 rcases I.ok.RE with e|⟨e,hf⟩
 ·rw[e];exact I.sZ
 ·rw[e];obtain⟨m,hn,_⟩:=I.loc;refine .cons (by rw[I.ok.kind];decide) hf hn ?_ I.sZ;exact Heap.get?_none_of_le (Nat.le_trans I.ok.HU I.ok.above)
theorem Inv.rj(I:Inv X pins σ H s):∀b∈mZ X.stack,b∈X.env.locals::X.fs:=fun b hb=>by
 rcases I.ok.RE with e|⟨e,hf⟩
 ·rw[e]at hb;exact List.mem_cons_of_mem _ hb
 ·rw[e]at hb;unfold mZ at hb;rw[List.filterMap_cons,hf]at hb;exact hb
theorem Inv.uM(I:Inv X pins σ H s):∀b∈mZ X.stack,H b=none:=fun b hb=>by
 rcases List.mem_cons.mp (I.rj b hb)with e|hb
 ·rw[e];exact I.free
 ·obtain⟨_,o,ho,_⟩:=I.ok.sZ.mem hb;exact I.base.free b o ho (I.ok.Lc b hb) fun z=>I.ok.Lb b z hb
theorem Inv.step{g':Array GenState}{t':Nat}{d':Drawn}{ch:List Addr}(I:Inv X pins σ H s)
  (Ew:∀b∈ch,(b∈X.ex∨X.c_.heap.objs.size≤b)∧b≠X.env.locals∧(∀x c,X.env.cells.lookup x=some c→c≠b)∧∀p∈X.pn++pins,p.1≠b)
  (keep:∀b o,b≠X.env.locals→b∉X.fs→b∉ch→s.heap.get? b=some o→H b=none→h'.get? b=some o)
  (slot:∀b o,b≠X.env.locals→b∈X.fs→b∉ch→s.heap.get? b=some o→H b=none→∃sl,h'.get? b=some {o with slots:=sl}) (free:∀b o,b∉ch→s.heap.get? b=some o→H b=none→H' b=none)
  (there:∀b o,b∉ch→s.heap.get? b=some o→∃o',h'.get? b=some o')
  (cF:∀b xs,H b=some (.tup xs)→H' b=some (.tup xs)) (m4:∀b o u,H b=some (.qS o u)→H' b=some (.qS o u)) (qz:∀b ps,H b=some (.EJ ps)→∃more,H' b=some (.EJ (ps++more)))
  (ns:∀m,s.heap.Ns X.env.locals m→h'.Ns X.env.locals m) (bR:kE X.prog X.w H' h') (hg:AllBare g'):
  Inv X pins σ H' {s with heap:=h',gens:=g',drawn:=d',toks:=t'}:=by
 have RF:∀b o,X.c_.heap.get? b=some o→b≠X.env.locals:=fun b o e=>Nat.ne_of_lt (Nat.lt_of_lt_of_le (Heap.lt_size e) I.ok.above)
 have Nw:∀b o,X.c_.heap.get? b=some o→b∉X.ex→b∉ch:=fun b o e hx hb=>by
  rcases(Ew b hb).1 with z|z
  ·exact hx z
  ·exact absurd (Nat.lt_of_lt_of_le (Heap.lt_size e) z) (Nat.lt_irrefl _)
 have cellK:∀x c,X.env.cells.lookup x=some c→∀v,s.heap.IsCell c v→h'.IsCell c v:=fun x c e v ⟨o,ho,hd⟩=>by
  have Ld:c∉ch:=fun z=>(Ew c z).2.2.1 x c e rfl
  by_cases hc:c∈X.fs
  ·obtain⟨sl,q⟩:=slot c o (I.HW x c e) hc Ld ho (I.lZ x c e);exact⟨_,q,hd⟩
  ·exact⟨o,keep c o (I.HW x c e) hc Ld ho (I.lZ x c e),hd⟩
 refine⟨I.ok,I.os,hg,⟨fun b o e n hb hx=>?_,fun b o e n hb hx=>?_,fun b o e n hx=>?_,fun b o e hx=>?_,fun b xs e=>cF b xs (I.base.cF b xs e),fun b o xs e=>m4 b o xs (I.base.m4 b o xs e),fun b ps e=>?_⟩,?_,fun x c e=>?_,?_,fun x c e=>?_,fun p hp=>?_,bR,I.len⟩
 ·exact keep b o (RF b o e) hb (Nw b o e hx) (I.base.keep b o e n hb hx) (I.base.free b o e n hx)
 ·obtain⟨sl,e1⟩:=I.base.slot b o e n hb hx;obtain⟨OP,e2⟩:=slot b _ (RF b o e) hb (Nw b o e hx) e1 (I.base.free b o e n hx);exact⟨OP,e2⟩
 ·obtain⟨o',e1⟩:=I.base.there b o e hx;exact free b o' (Nw b o e hx) e1 (I.base.free b o e n hx)
 ·obtain⟨o',e1⟩:=I.base.there b o e hx;exact there b o' (Nw b o e hx) e1
 ·obtain⟨m1,e1⟩:=I.base.qz b ps e;obtain⟨m2,e2⟩:=qz b _ e1;exact⟨m1++m2,by rw[e2,Array.append_assoc]⟩
 ·obtain⟨m,hn,hl⟩:=I.loc;refine⟨m,ns m hn,fun i x v e1 e2 e3=>?_⟩;obtain⟨u,r,l⟩:=hl i x v e1 e2 e3;refine⟨u,r,?_⟩;rcases l with l|⟨k,c,e,z⟩
  ·exact .inl l
  ·exact .inr ⟨k,c,e,cellK x c e _ z⟩
 ·obtain⟨v,z⟩:=I.cell x c e;exact⟨v,cellK x c e v z⟩
 ·obtain⟨m,⟨o,_,_,ho,_⟩,_⟩:=I.loc;exact free _ o (fun z=>(Ew _ z).2.1 rfl) ho I.free
 ·obtain⟨v,o,ho,hd⟩:=I.cell x c e;exact free c o (fun z=>(Ew c z).2.2.1 x c e rfl) ho (I.lZ x c e)
 ·obtain⟨e,n,ne,nf,d⟩:=I.pin p hp;have Ld:p.1∉ch:=fun z=>(Ew p.1 z).2.2.2 p hp rfl
  exact⟨keep p.1 p.2 ne nf Ld e n,free p.1 p.2 Ld e n,ne,nf,d⟩
theorem Inv.un{t':Nat}(I:Inv X pins σ H s)(u:Un X.fs [] H H' s.heap h')(bR:kE X.prog X.w H' h'):Inv X pins σ H' {s with heap:=h',toks:=t'}:=by
 obtain⟨m,⟨o,es,ep,ho,r⟩,_⟩:=id I.loc;obtain⟨sl,hL⟩:=u.any ho I.free XN;exact I.step (g':=s.gens) (d':=s.drawn) (ch:=[]) (fun _ z=>nomatch z) (fun b o _ hb _ e n=>u.keep b o e n hb XN) (fun b o _ hb _ e n=>u.slot b o e n hb XN) (fun b o _ e n=>u.free b o e n (XX)) (fun b o _ e=>u.there b o e XN) u.cF u.m4 u.qz (fun m' hm=>by
  obtain⟨o',Nx,Ny,HX,r'⟩:=hm;rw[ho]at HX;cases HX;exact⟨_,Nx,Ny,hL,r'⟩) bR I.bare
theorem Inv.call{g':Array GenState}{t':Nat}{d':Drawn}{ch:List Addr}(I:Inv X pins σ H s)(u:Un (mZ X.stack) ch H H' s.heap h')(bR:kE X.prog X.w H' h')(hg:AllBare g')
  (Ew:∀b∈ch,(b∈X.ex∨X.c_.heap.objs.size≤b)∧b≠X.env.locals∧(∀x c,X.env.cells.lookup x=some c→c≠b)∧∀p∈X.pn++pins,p.1≠b):
  Inv X pins σ H' {s with heap:=h',gens:=g',drawn:=d',toks:=t'}:=by
 obtain⟨m,⟨o,es,ep,ho,r⟩,_⟩:=id I.loc;obtain⟨sl,hL⟩:=u.any ho I.free fun z=>(Ew _ z).2.1 rfl
 exact I.step (ch:=ch) Ew (fun b o hL hb hc e n=>u.keep b o e n (fun z=>(List.mem_cons.mp (I.rj b z)).elim hL hb) hc) (fun b o _ _ hc e n=>u.any e n hc) (fun b o hc e n=>u.free b o e n hc) (fun b o hc e=>u.there b o e hc) u.cF u.m4 u.qz (fun m' hm=>by
  obtain⟨o',Nx,Ny,HX,r'⟩:=hm;rw[ho]at HX;cases HX;exact⟨_,Nx,Ny,hL,r'⟩) bR hg
theorem Inv.turned{t':Nat}{it:Addr}(I:Inv X pins σ H s)(k:∀b o,b≠it→s.heap.get? b=some o→h'.get? b=some o)(hn:H it=none)(hL:it≠X.env.locals)
  (h1:it∈X.ex∨X.c_.heap.objs.size≤it) (h2:∀x c,X.env.cells.lookup x=some c→c≠it) (h3:∀p∈X.pn++pins,p.1≠it):Inv X pins σ H {s with heap:=h',toks:=t'}:=by
 have Gs:∀b u,H b=some u→b≠it:=fun b u e z=>by rw[z,hn]at e;cases e
 refine I.step (g':=s.gens) (d':=s.drawn) (ch:=[it]) (fun b hb=>?_) (fun b o _ _ hc e _=>k b o (fun z=>hc (by simp[z])) e) (fun b o _ _ hc e _=>⟨o.slots,k b o (fun z=>hc (by simp[z])) e⟩) (fun _ _ _ _ n=>n)
  (fun b o hc e=>⟨o,k b o (fun z=>hc (by simp[z])) e⟩) (fun _ _ e=>e) (fun _ _ _ e=>e) (fun b ps e=>⟨#[],by rw[e];simp⟩) (fun m hm=>?_) (fun b u e=>?_) I.bare
 ·have e:b=it:=by simpa using hb
  subst e;exact⟨h1,hL,h2,h3⟩
 ·obtain⟨o,es,ep,ho,r⟩:=hm;exact⟨o,es,ep,k _ o (Ne.symm hL) ho,r⟩
 ·refine(I.bR b u e).uK (fun c v hc q=>k c v ?_ q) (fun _ q=>q) fun _ _ q=>q
  rcases hc with z|z
  ·rw[z];exact Gs b u e
  ·exact Gs c _ z
theorem Inv.tok(I:Inv X pins σ H s)(t:Nat):Inv X pins σ H {s with toks:=t}:=I.un (h':=s.heap) (t':=t) Un.refl I.bR
theorem Inv.kept{t':Nat}(I:Inv X pins σ H s)(k:∀b u,s.heap.get? b=some u→h'.get? b=some u):Inv X pins σ H {s with heap:=h',toks:=t'}:=I.un (Un.kept k) (I.bR.kept k)
theorem Inv.laid{a:Addr}{o:HO}{t':Nat}(I:Inv X pins σ H s)(k:∀b u,s.heap.get? b=some u→h'.get? b=some u)(hp:s.heap.objs.size≤a)(new:cK X.prog X.w (upd H a o) h' a o):
  Inv X pins σ (upd H a o) {s with heap:=h',toks:=t'}:=I.un (Un.laid k hp (I.bR.fresh hp)) (I.bR.laid k hp new)
theorem Inv.write{x e:Addr}{o:HO}{t':Nat}(I:Inv X pins σ H s)(mu:K_ (H x))(he:e=x∨H e=some (.own x))(k:∀b u,b≠e→s.heap.get? b=some u→h'.get? b=some u)(Kh:∃u,h'.get? e=some u)
  (new:cK X.prog X.w (upd H x o) h' x o):Inv X pins σ (upd H x o) {s with heap:=h',toks:=t'}:=I.un (Un.write mu he k Kh) (I.bR.write mu he k Kh new)
theorem Inv.Yu{Gu:List (Addr×Obj)}(I:Inv X pins σ H s)(h:∀p∈Gu,s.heap.get? p.1=some p.2∧H p.1=none∧p.1≠X.env.locals∧p.1∉X.fs∧∀v,p.2.data≠ .cell v):Inv X Gu σ H s:=
 ⟨I.ok,I.os,I.bare,I.base,I.loc,I.cell,I.free,I.lZ,fun p hp=>(List.mem_append.mp hp).elim (fun z=>I.pin p (List.mem_append_left _ z)) (h p),I.bR,I.len⟩
theorem wL{N:List Str}(hN:N.Nodup){i j:Nat}{x:Str}(a:N[i]?=some x)(b:N[j]?=some x):i=j:=by
 obtain⟨h1,e1⟩:=Xv a;obtain⟨h2,e2⟩:=Xv b;exact(List.getElem_inj hN).mp (e1.trans e2.symm)
theorem t_{M:Model}{A:Around}{E:Value→Shared→Prop}{i:Nat}{x:Str}{v:V}{u:Value}{Q:Unit→Shared→Prop}(I:Inv X pins σ H s)(hN:X.N.Nodup)(hi:X.N[i]?=some x)(hx:Loc X.env.scope x)(r:RelV v u)
  (h:∀s',Inv X pins (σ.set i (some v)) H s'→(∃a,Heap.SameBut a s.heap s'.heap∧(a=X.env.locals∨X.env.cells.lookup x=some a))→Q () s') (hf:X.fn x=true∨X.env.scope.names.lookup x=some .local:=by first|exact .inl rfl|exact .inr rfl|assumption):wpAny M A (storeName X.env x u) Q E s:=by
 obtain⟨m,hn,hl⟩:=id I.loc;have OQ:(X.env.scope.kind== .class||(X.env.scope.kind== .module&&X.env.locals !=X.env.globals))=false:=by rw[I.ok.kind];rfl
 have Le:i<σ.length:=by rw[I.len];exact(Xv hi).1
 have HW:=I.HW;have tracked:∀{a:Addr}{h':Heap},(∃o,s.heap.get? a=some o∧H a=none)→Heap.SameBut a s.heap h'→kE X.prog X.w H h':=fun{a h'} ha hs b ob e=>by
  obtain⟨_,_,YO⟩:=ha;refine(I.bR b ob e).uK (fun c w' hc q=>(hs.2 c ?_).trans q) (fun _ q=>q) fun _ _ q=>q
  rintro rfl;rcases hc with rfl|hc
  ·rw[YO]at e;cases e
  ·rw[YO]at hc;cases hc
 rcases hx with hk|hk
 ·refine wpAny_storeName_local hk hn (fun h' Cj hs=>?_) OQ;obtain⟨oL,_,_,Gv,_⟩:=id hn;refine h _ ⟨I.ok,I.os,I.bare,⟨fun b o e n hb hx=>?_,fun b o e n hb hx=>?_,I.base.free,fun b o e hx=>?_,I.base.cF,I.base.m4,I.base.qz⟩,⟨_,Cj,fun j y v' e1 e2 e3=>?_⟩,fun y c e=>?_,I.free,I.lZ,fun p hp=>?_,tracked ⟨oL,Gv,I.free⟩ hs,by simpa using I.len⟩ ⟨_,hs, .inl rfl⟩
  ·exact(hs.2 b (Nat.ne_of_lt (Nat.lt_of_lt_of_le (Heap.lt_size e) I.ok.above))).trans (I.base.keep b o e n hb hx)
  ·obtain⟨sl,e1⟩:=I.base.slot b o e n hb hx;exact⟨sl,(hs.2 b (Nat.ne_of_lt (Nat.lt_of_lt_of_le (Heap.lt_size e) I.ok.above))).trans e1⟩
  ·obtain⟨o',e1⟩:=I.base.there b o e hx;exact⟨o',(hs.2 b (Nat.ne_of_lt (Nat.lt_of_lt_of_le (Heap.lt_size e) I.ok.above))).trans e1⟩
  ·by_cases hj:j=i
   ·subst hj;rw[hi]at e1;cases e1;rw[List.getElem?_set_self Le]at e2;cases e2;exact⟨u,r, .inl ⟨hk,XX⟩⟩
   ·rw[List.getElem?_set_ne (Ne.symm hj)]at e2;obtain⟨u',r',q⟩:=hl j y v' e1 e2 e3;refine⟨u',r',?_⟩;rcases q with⟨k,e⟩|⟨k,c,e,z⟩
    ·refine .inl ⟨k,?_⟩;have:y≠x:=fun e=>hj (wL hN e1 (e▸hi))
     simp[this,e]
    ·exact .inr ⟨k,c,e,z.sameBut hs (HW y c e)⟩
  ·obtain⟨w',z⟩:=I.cell y c e;exact⟨w',z.sameBut hs (HW y c e)⟩
  ·obtain⟨e,n,ne,nf,d⟩:=I.pin p hp;exact⟨(hs.2 p.1 ne).trans e,n,ne,nf,d⟩
 ·have Lf:X.fn x=true:=by
   rcases hf with z|z
   ·exact z
   ·rw[z]at hk;cases hk
  obtain⟨c,hc⟩:=I.ok.has x (.inl hk);obtain⟨w',z⟩:=I.cell x c hc;refine wpAny_storeName_cell I.ok.kind hk hc z (fun h' HY hs=>?_);obtain⟨oc,RG,OR⟩:=id z;refine h {s with heap:=h'} ⟨I.ok,I.os,I.bare,⟨fun b o e n hb hx=>?_,fun b o e n hb hx=>?_,I.base.free,fun b o e hx=>?_,I.base.cF,I.base.m4,I.base.qz⟩,⟨m,hn.sameBut hs (Ne.symm (HW x c hc)),fun j y v' e1 e2 e3=>?_⟩,fun y c' e=>?_,I.free,I.lZ,fun p hp=>?_,tracked ⟨oc,RG,I.lZ x c hc⟩ hs,by simpa using I.len⟩ ⟨c,hs, .inr hc⟩
  ·exact(hs.2 b (Nat.ne_of_lt (Nat.lt_of_lt_of_le (Heap.lt_size e) (I.ok.OM x c Lf hc)))).trans (I.base.keep b o e n hb hx)
  ·obtain⟨sl,e1⟩:=I.base.slot b o e n hb hx;exact⟨sl,(hs.2 b (Nat.ne_of_lt (Nat.lt_of_lt_of_le (Heap.lt_size e) (I.ok.OM x c Lf hc)))).trans e1⟩
  ·obtain⟨o',e1⟩:=I.base.there b o e hx;exact⟨o',(hs.2 b (Nat.ne_of_lt (Nat.lt_of_lt_of_le (Heap.lt_size e) (I.ok.OM x c Lf hc)))).trans e1⟩
  ·by_cases hj:j=i
   ·subst hj;rw[hi]at e1;cases e1;rw[List.getElem?_set_self Le]at e2;cases e2;exact⟨u,r, .inr ⟨.inl hk,c,hc,HY⟩⟩
   ·rw[List.getElem?_set_ne (Ne.symm hj)]at e2;obtain⟨u',r',q⟩:=hl j y v' e1 e2 e3;refine⟨u',r',?_⟩;rcases q with q|⟨k,c',e,z'⟩
    ·exact .inl q
    ·refine .inr ⟨k,c',e,z'.sameBut hs ?_⟩;rintro rfl;exact hj (wL hN e1 (I.ok.inj _ _ _ e hc▸hi))
  ·by_cases RH:c'=c
   ·subst RH;exact⟨_,HY⟩
   ·obtain⟨w2,z2⟩:=I.cell y c' e;exact⟨w2,z2.sameBut hs RH⟩
  ·obtain⟨e,n,ne,nf,d⟩:=I.pin p hp;refine⟨(hs.2 p.1 ?_).trans e,n,ne,nf,d⟩;intro q;rw[q,RG]at e;have q':oc=p.2:=XM e;exact d w' (by rw[←q'];exact OR)
theorem wM{M:Model}{A:Around}{E:Value→Shared→Prop}{i:Nat}{x:Str}{v:V}{u:Value}{Q:Unit→Shared→Prop}(I:Inv X pins σ H s)(hN:X.N.Nodup)(hi:X.N[i]?=some x)(hx:Loc X.env.scope x)(r:RelV v u)
  (h:∀s',Inv X pins (σ.set i (some v)) H s'→Q () s') (hf:X.fn x=true∨X.env.scope.names.lookup x=some .local:=by first|exact .inl rfl|exact .inr rfl|assumption):wpAny M A (storeName X.env x u) Q E s:=
 t_ I hN hi hx r (fun s' I' _=>h s' I') hf
theorem Inv.Lg{s':Shared}{ch:List Addr}(I:Inv X pins σ H s)(ho:s'.os=s.os)(u:Un (mZ X.stack) ch H H' s.heap s'.heap)(bR:kE X.prog X.w H' s'.heap)(hg:AllBare s'.gens)
  (Ew:∀b∈ch,(b∈X.ex∨X.c_.heap.objs.size≤b)∧b≠X.env.locals∧(∀x c,X.env.cells.lookup x=some c→c≠b)∧∀p∈X.pn++pins,p.1≠b):Inv X pins σ H' s':=by
 obtain⟨h',g',d',t',o'⟩:=s';have e:o'=s.os:=ho;subst e;exact I.call (g':=g') (t':=t') (d':=d') u bR hg Ew
end
abbrev XK:=Value→Option Addr→Hp→Prop
abbrev St:=List (Option V)
abbrev VK:=V→Hp→Prop
abbrev TE:=St→Hp→VK→Prop
abbrev TT:=St→Hp→(Bool→Hp→Prop)→Prop
abbrev TA:=St→Hp→(List V→Hp→Prop)→Prop
structure Ends where
 nx:St→Hp→Prop
 rt:VK
 bk:St→Hp→Prop:=fun _ _=>False
 ct:St→Hp→Prop:=fun _ _=>False
abbrev TS:=Ends→St→Hp→Prop
def EP(X:Cx)(pins:List (Addr×Obj))(σ:St)(Q:VK)(u:Value)(s':Shared):Prop:=∃v H',Inv X pins σ H' s'∧RelV v u∧Q v H'
def TP(X:Cx)(pins:List (Addr×Obj))(σ:St)(Q:Bool→Hp→Prop)(b:Bool)(s':Shared):Prop:=∃H',Inv X pins σ H' s'∧Q b H'
def AP(X:Cx)(pins:List (Addr×Obj))(σ:St)(Q:List V→Hp→Prop)(us:List Value)(s':Shared):Prop:=∃vs H',Inv X pins σ H' s'∧Vals vs us∧Q vs H'
def SP(X:Cx)(pins:List (Addr×Obj))(D:Ends)(f:Flow)(s':Shared):Prop:=
 match f with
 | .next=>∃bA H',Inv X pins bA H' s'∧D.nx bA H'
 | .brk=>∃bA H',Inv X pins bA H' s'∧D.bk bA H'
 | .cont=>∃bA H',Inv X pins bA H' s'∧D.ct bA H'
 | .ret u=>∃v bA H',Inv X pins bA H' s'∧RelV v u∧D.rt v H'
def PE(X:Cx)(e:Expr)(t:TE):Prop:=
 ∀(pins:List (Addr×Obj))(s:Shared)(σ:St)(H:Hp)(Q:VK),Inv X pins σ H s→t σ H Q→wpAny (model X.prog X.w) X.A (eval e X.env) (EP X pins σ Q) X.xe s
def PT(X:Cx)(e:Expr)(t:TT):Prop:=
 ∀(pins:List (Addr×Obj))(s:Shared)(σ:St)(H:Hp)(Q:Bool→Hp→Prop),Inv X pins σ H s→t σ H Q→wpAny (model X.prog X.w) X.A (isTrue e X.env (eval e X.env)) (TP X pins σ Q) X.xe s
def PW(X:Cx)(e:Expr)(t:TT):Prop:=
 ∀(whole:Sem Value)(pins:List (Addr×Obj))(s:Shared)(σ:St)(H:Hp)(Q:Bool→Hp→Prop),Inv X pins σ H s→t σ H Q→wpAny (model X.prog X.w) X.A (isTrue e X.env whole) (TP X pins σ Q) X.xe s
theorem PW.pt{X:Cx}{e:Expr}{t:TT}(h:PW X e t):PT X e t:=h _
def PA(X:Cx)(es:List Expr)(t:TA):Prop:=
 ∀(pos:Pos)(pins:List (Addr×Obj))(s:Shared)(σ:St)(H:Hp)(Q:List V→Hp→Prop),Inv X pins σ H s→t σ H Q→wpAny (model X.prog X.w) X.A (spliced (backTo pos (starEach es X.env))) (AP X pins σ Q) X.xe s
def PS(X:Cx)(st:Stmt)(t:TS):Prop:=
 ∀(pins:List (Addr×Obj))(s:Shared)(σ:St)(H:Hp)(D:Ends),Inv X pins σ H s→t D σ H→wpAny (model X.prog X.w) X.A (exec st X.env) (SP X pins D) X.xe s
def AU(X:Cx)(st:List Stmt)(t:TS):Prop:=
 ∀(pins:List (Addr×Obj))(s:Shared)(σ:St)(H:Hp)(D:Ends),Inv X pins σ H s→t D σ H→wpAny (model X.prog X.w) X.A (execs st X.env) (SP X pins D) X.xe s
theorem cy{α:Type}{t:Sem α}{Q Q':α→Shared→Prop}{M:Model}{A:Around}{E:Value→Shared→Prop}{s:Shared}(h:wpAny M A t Q E s)(hQ:∀a s,Q a s→Q' a s):wpAny M A t Q' E s:=wpAny_mono h hQ fun _ _ x=>x
section
variable{X:Cx}
theorem bin{a b:Expr}{ta tb:TE}(ha:PE X a ta)(hb:PE X b tb){pins:List (Addr×Obj)}{s:Shared}{σ:St}{H:Hp}{R:V→V→Hp→Prop}(I:Inv X pins σ H s)(h:ta σ H fun x H1=>tb σ H1 fun y H2=>R x y H2)
  {α:Type} {Q:α→Shared→Prop} {f:Value→Value→Sem α}
  (hf:∀v u s2 x y H2,Inv X pins σ H2 s2→RelV x v→RelV y u→R x y H2→wpAny (model X.prog X.w) X.A (f v u) Q X.xe s2):
  wpAny (model X.prog X.w) X.A (eval a X.env) (fun v bX=>wpAny (model X.prog X.w) X.A (eval b X.env) (fun u o8=>wpAny (model X.prog X.w) X.A (f v u) Q X.xe o8) X.xe bX) X.xe s:=by
 refine cy (ha pins s σ H _ I h) fun v s1 ⟨x,H1,I1,r1,q1⟩=>?_
 refine cy (hb pins s1 σ H1 _ I1 q1) fun u s2 ⟨y,H2,I2,r2,q2⟩=>?_
 exact hf v u s2 x y H2 I2 r1 r2 q2
inductive HZ(i:Nat)(σ:St)(H:Hp)(Q:VK):Prop
 |mk (v:_) (_:σ[i]?=some (some v)) (_:Q v H):HZ i σ H Q
def tC(v:V):TE:=fun _ H Q=>Q v H
theorem H_{i:Nat}{x:Str}{pos:Pos}(hN:X.N[i]?=some x)(hv:OL X.env.scope x)(hd:(x==("__debug__":Str))=false:=by decide)(AV:(x==("__classdict__":Str))=false:=by decide):PE X (.Name x pos) (HZ i):=by
 intro pins s σ H Q I h;obtain⟨v,e,h⟩:=h;obtain⟨m,hn,hl⟩:=I.loc;obtain⟨u,r,l⟩:=hl i x v hN e hv;have fin:EP X pins σ Q u s:=⟨v,H,I,r,h⟩
 rcases l with⟨hk,hm⟩|⟨hk,c,hc,Gx⟩
 ·exact wpAny_Name (wpAny_loadName_local I.ok.kind hk hn hm fin) hd
 ·rcases hk with hk|hk
  ·exact wpAny_Name (wpAny_loadName_cell I.ok.kind hk hc Gx fin) hd
  ·exact wpAny_Name (wpAny_loadName_free I.ok.kind hk hc Gx fin AV) hd
theorem af{i j pos}:PE X (.Constant (.int i) j pos) (tC (.int i)):=fun _ _ _ H _ I h=>wpAny_Constant_int ⟨.int i,H,I.tok _,⟨_,rfl⟩,h⟩
theorem kn{b j pos}:PE X (.Constant (.bool b) j pos) (tC (.bl b)):=fun _ _ _ H _ I h=>Constant_bool ⟨.bl b,H,I,rfl,h⟩
theorem jj{j pos}:PE X (.Constant .none j pos) (tC .cJ):=fun _ _ _ H _ I h=>Constant_none ⟨.cJ,H,I,rfl,h⟩
theorem dH{x j pos}:PE X (.Constant (.str x) j pos) (tC (.str x)):=fun _ _ _ H _ I h=>Calls.Constant_str ⟨.str x,H,I.tok _,⟨_,rfl⟩,h⟩
def Gl(X:Cx)(x:Str):Prop:=X.env.kindOf x=some .globalImplicit
theorem m6{E:Value→Shared→Prop}{pins:List (Addr×Obj)}{s:Shared}{σ:St}{H:Hp}{x:Str}{u:Value}{pos:Pos}{Q:Value→Shared→Prop}(I:Inv X pins σ H s)(hg:Gl X x)(hm:X.mg x=some u)(h:Q u s)
  (hd:(x==("__debug__":Str))=false:=by decide):wpAny (model X.prog X.w) X.A (eval (.Name x pos) X.env) Q E s:=
 Calls.Name_function_global I.ok.kind hg (Calls.loadGlobal_global (by rw[I.ok.glob];exact I.mod.glob.keeps I.bk) hm h) hd
theorem jR{E:Value→Shared→Prop}{pins:List (Addr×Obj)}{s:Shared}{σ:St}{H:Hp}{x:Str}{u:Value}{pos:Pos}{Q:Value→Shared→Prop}(I:Inv X pins σ H s)(hg:Gl X x)(hm:X.mg x=none)(hv:bootBuiltins x=some u)(h:Q u s)
  (hn:x≠"__name__":=by decide) (hd:(x==("__debug__":Str))=false:=by decide):wpAny (model X.prog X.w) X.A (eval (.Name x pos) X.env) Q E s:=by
 obtain⟨mb,h1,h2⟩:=I.mod.blt;exact Calls.Name_function_global I.ok.kind hg (Calls.loadGlobal_builtin (by rw[I.ok.glob];exact I.mod.glob.keeps I.bk) hm (by rw[I.ok.blt];exact h1.keeps I.bk) ((h2 x hn).trans hv) h) hd
theorem Z7{x:Str}{v:V}{u:Value}{pos:Pos}(hg:Gl X x)(hm:X.mg x=some u)(r:RelV v u)(hd:(x==("__debug__":Str))=false:=by decide):PE X (.Name x pos) (tC v):=
 fun _ _ _ H _ I h=>m6 I hg hm ⟨v,H,I,r,h⟩ hd
theorem m7{x:Str}{v:V}{u:Value}{pos:Pos}(hg:Gl X x)(hm:X.mg x=none)(hv:bootBuiltins x=some u)(r:RelV v u)(hn:x≠"__name__":=by decide)(hd:(x==("__debug__":Str))=false:=by decide):PE X (.Name x pos) (tC v):=
 fun _ _ _ H _ I h=>jR I hg hm hv ⟨v,H,I,r,h⟩ hn hd
variable{a b:Expr}{ta tb:TE}{pos:Pos}
def PC(X:Cx)(op:CmpOp)(a b:Expr)(t:TE):Prop:=
 ∀(pins:List (Addr×Obj))(s:Shared)(σ:St)(H:Hp)(Q:VK),Inv X pins σ H s→t σ H Q→
  wpAny (model X.prog X.w) X.A (eval a X.env) (fun v bX=>wpAny (model X.prog X.w) X.A (eval b X.env) (fun u o8=>wpAny (model X.prog X.w) X.A (compareOp op v u) (EP X pins σ Q) X.xe o8) X.xe bX) X.xe s
theorem bE(b:Expr){op:CmpOp}(h:op≠ .In)(h2:op≠ .NotIn):behindInMarks op b=false:=by
 have e1:(op==CmpOp.In)=false:=by cases op<;>first|rfl|exact absurd rfl h
 have e2:(op==CmpOp.NotIn)=false:=by cases op<;>first|rfl|exact absurd rfl h2
 cases b<;>simp[behindInMarks,e1,e2]
def OS(ta:TE):TE:=fun σ H Q=>ta σ H fun x H1=>Q (.bl (decide (x= .cJ))) H1
def Lh(ta:TE):TE:=fun σ H Q=>ta σ H fun x H1=>Q (.bl (!decide (x= .cJ))) H1
theorem RelV.wN{x:V}{v:Value}(r:RelV x v):(v==Value.none)=decide (x= .cJ):=by
 cases x with
 |cJ=>cases r;rfl
 |bl _=>cases r;rfl
 |int _=>obtain⟨t,rfl⟩:=r;rfl
 |str _=>obtain⟨t,rfl⟩:=r;rfl
 |AR _=>obtain⟨t,rfl⟩:=r;rfl
 |Gr _=>obtain⟨t,rfl⟩:=r;rfl
 |ref _=>cases r;rfl
 |ty _=>cases r;rfl
theorem mf{j pos'}(ha:PE X a ta):PC X .Is a (.Constant .none j pos') (OS ta):=by
 intro pins s σ H Q I h;refine cy (ha pins s σ H _ I h) fun v s1 ⟨x,H1,I1,r1,q1⟩=>?_
 exact Constant_none (is_none_gen ⟨.bl _,H1,I1,by rw[r1.wN];rfl,q1⟩)
theorem m8{j pos'}(ha:PE X a ta):PC X .IsNot a (.Constant .none j pos') (Lh ta):=by
 intro pins s σ H Q I h;refine cy (ha pins s σ H _ I h) fun v s1 ⟨x,H1,I1,r1,q1⟩=>?_
 exact Constant_none (isnot_none_gen ⟨.bl _,H1,I1,by rw[r1.wN];rfl,q1⟩)
inductive Li(x:V)(H:Hp)(Q:Bool→Hp→Prop):Prop
 |mk (c:Bool) (_:x= .bl c) (_:Q c H):Li x H Q
def tB(t:TE):TT:=fun σ H Q=>t σ H fun x H1=>Li x H1 Q
theorem Yg{op:CmpOp}{t:TE}(h:PC X op a b t)(h1:behindInMarks op b=false:=by first|exact bE _ (XU) (XU)|rfl):PE X (.Compare a [op] [b] pos) t:=fun pins s σ H Q I hw=>wpAny_Compare1 (h pins s σ H Q I hw) h1
theorem fu{op:CmpOp}{t:TE}(h:PC X op a b t)(h1:behindInMarks op b=false:=by first|exact bE _ (XU) (XU)|rfl):PT X (.Compare a [op] [b] pos) (tB t):=by
 intro pins s σ H Q I hw;refine wpAny_isTrue_Compare1 (cy (h pins s σ H _ I hw) fun v s1 h1=>cy h1 fun u s2 h2=>cy h2 fun c s3 ⟨x,H1,I1,r1,q1⟩=>?_) h1;obtain⟨d,rfl,q⟩:=q1;cases r1;exact wpAny_truthy_bool ⟨H1,I1,q⟩
theorem dI{e:Expr}{t:TE}(h:PE X e t)(he:∀whole,isTrue e X.env whole=(do let v←whole;standAt e.pos;holding [v] (truthy v)):=by intro _;rfl):PT X e (tB t):=by
 intro pins s σ H Q I hw;refine isTrue_plain (cy (h pins s σ H _ I hw) fun v s1 ⟨x,H1,I1,r1,q1⟩=>?_) (he _);obtain⟨d,rfl,q⟩:=q1;cases r1;exact wpAny_truthy_bool ⟨H1,I1,q⟩
variable{tA Nz:TT}{rest:List Expr}
def OT(t u:TT):TT:=fun σ H Q=>t σ H fun c H1=>if c=true then u σ H1 Q else Q false H1
def Uc(t u:TT):TT:=fun σ H Q=>t σ H fun c H1=>if c=true then Q true H1 else u σ H1 Q
def OU(t:TT):TT:=fun σ H Q=>t σ H fun c H1=>Q (!c) H1
theorem pw_and1(ha:PT X a tA):PW X (.BoolOp .And [a] pos) tA:=by
 intro wh pins s σ H Q I h;refine isTrue_and (cy (ha pins s σ H Q I h) fun c s1 e=>?_);cases c with
 |true=>exact isTrue_and_nil e
 |false=>exact e
theorem pw_or1(ha:PT X a tA):PW X (.BoolOp .Or [a] pos) tA:=by
 intro wh pins s σ H Q I h;refine isTrue_or (cy (ha pins s σ H Q I h) fun c s1 e=>?_);cases c with
 |false=>exact isTrue_or_nil e
 |true=>exact e
theorem pw_and(ha:PT X a tA)(hb:PW X (.BoolOp .And (b::rest) pos) Nz):PW X (.BoolOp .And (a::b::rest) pos) (OT tA Nz):=by
 intro wh pins s σ H Q I h;refine isTrue_and (cy (ha pins s σ H _ I h) fun c s1 ⟨H1,I1,q1⟩=>?_);cases c with
 |true=>exact hb wh pins s1 σ H1 Q I1 q1
 |false=>exact⟨H1,I1,q1⟩
theorem pw_or(ha:PT X a tA)(hb:PW X (.BoolOp .Or (b::rest) pos) Nz):PW X (.BoolOp .Or (a::b::rest) pos) (Uc tA Nz):=by
 intro wh pins s σ H Q I h;refine isTrue_or (cy (ha pins s σ H _ I h) fun c s1 ⟨H1,I1,q1⟩=>?_);cases c with
 |true=>exact⟨H1,I1,q1⟩
 |false=>exact hb wh pins s1 σ H1 Q I1 q1
theorem gi(ha:PT X a tA):PT X (.UnaryOp .Not a pos) (OU tA):=by
 intro pins s σ H Q I h;exact isTrue_not (ha pins s σ H (fun c H1=>Q (!c) H1) I h)
def Lj(ta tb:TE):TE:=fun σ H Q=>ta σ H fun x H1=>∃c,x= .bl c∧if c=true then tb σ H1 Q else Q (.bl false) H1
def OW(ta tb:TE):TE:=fun σ H Q=>ta σ H fun x H1=>∃c,x= .bl c∧if c=true then Q (.bl true) H1 else tb σ H1 Q
def Lk(ta:TE):TE:=fun σ H Q=>ta σ H fun x H1=>∃c,x= .bl c∧Q (.bl (!c)) H1
theorem o_{op}{t:TE}(h:PE X a t):PE X (.BoolOp op [a] pos) t:=fun pins s σ H Q I hw=>BoolOp_one (h pins s σ H Q I hw)
theorem rk(ha:PE X a ta)(hb:PE X (.BoolOp .And (b::rest) pos) tb):PE X (.BoolOp .And (a::b::rest) pos) (Lj ta tb):=by
 intro pins s σ H Q I h;refine BoolOp_and (cy (ha pins s σ H _ I h) fun v s1 ⟨x,H1,I1,r1,q1⟩=>?_);obtain⟨c,rfl,q1⟩:=q1;cases r1;refine wpAny_truthy_bool ?_;cases c with
 |true=>exact hb pins s1 σ H1 Q I1 q1
 |false=>exact⟨.bl false,H1,I1,rfl,q1⟩
theorem Ll(ha:PE X a ta)(hb:PE X (.BoolOp .Or (b::rest) pos) tb):PE X (.BoolOp .Or (a::b::rest) pos) (OW ta tb):=by
 intro pins s σ H Q I h;refine BoolOp_or (cy (ha pins s σ H _ I h) fun v s1 ⟨x,H1,I1,r1,q1⟩=>?_);obtain⟨c,rfl,q1⟩:=q1;cases r1;refine wpAny_truthy_bool ?_;cases c with
 |false=>exact hb pins s1 σ H1 Q I1 q1
 |true=>exact⟨.bl true,H1,I1,rfl,q1⟩
theorem Ia(ha:PE X a ta):PE X (.UnaryOp .Not a pos) (Lk ta):=by
 intro pins s σ H Q I h;refine UnaryOp_ (cy (ha pins s σ H _ I h) fun v s1 ⟨x,H1,I1,r1,q1⟩=>?_);obtain⟨c,rfl,q1⟩:=q1;cases r1;exact not_of (wpAny_truthy_bool ⟨.bl (!c),H1,I1,rfl,q1⟩)
def Ud(t:TT)(ta tb:TE):TE:=fun σ H Q=>t σ H fun c H1=>if c=true then ta σ H1 Q else tb σ H1 Q
theorem m9{c:Expr}(hc:PT X c tA)(ha:PE X a ta)(hb:PE X b tb):PE X (.IfExp c a b pos) (Ud tA ta tb):=by
 intro pins s σ H Q I h;refine wpAny_IfExp (cy (hc pins s σ H _ I h) fun d s1 ⟨H1,I1,q1⟩=>?_);cases d with
 |true=>exact ha pins s1 σ H1 Q I1 q1
 |false=>exact hb pins s1 σ H1 Q I1 q1
end
def gZ(K:PySem.W.Frag)(H:Hp)(a:Addr)(xs:List V):Prop:=
 Rd H a (.lst xs)∨
  ∃(o:Obj)(its:Array Value)(n:Nat),K.lookup a=some o∧o.cls= .type "list"∧o.dict=none∧o.data= .seq its n∧its.size≤sizeLine∧Vals xs its.toList
def Ck(K:PySem.W.Frag)(H:Hp)(a:Addr)(xs:List V):Prop:=
 Rd H a (.tup xs)∨
  ∃(o:Obj)(its:Array Value)(n:Nat),K.lookup a=some o∧o.cls= .type "tuple"∧o.data= .seq its n∧its.size≤sizeLine∧Vals xs its.toList
def OX:Value→Option V
 | .none=>some .cJ
 | .bool b=>some (.bl b)
 | .int i _=>some (.int i)
 | .str x _=>some (.str x)
 | .bytes b _=>some (.AR b)
 | .float b _=>some (.Gr b)
 | .ref a=>some (.ref a)
 | .type n=>some (.ty n)
 | _=>none
theorem RelV.abs{x:V}{u:Value}(r:RelV x u):OX u=some x:=by
 cases x with
 |cJ=>cases r;rfl
 |bl _=>cases r;rfl
 |int _=>obtain⟨t,rfl⟩:=r;rfl
 |str _=>obtain⟨t,rfl⟩:=r;rfl
 |AR _=>obtain⟨t,rfl⟩:=r;rfl
 |Gr _=>obtain⟨t,rfl⟩:=r;rfl
 |ref _=>cases r;rfl
 |ty _=>cases r;rfl
theorem RelV.inj{x y:V}{u:Value}(r:RelV x u)(q:RelV y u):x=y:=XM (r.abs.symm.trans q.abs)
theorem Vals.inj:∀{xs ys:List V}{us:List Value},Vals xs us→Vals ys us→xs=ys
 | _,_,_, .nil, .nil=>rfl
 | _,_,_, .cons r t, .cons r' t'=>by rw[r.inj r',Vals.inj t t']
section
variable{X:Cx}{pins:List (Addr×Obj)}{σ:St}{H:Hp}{s:Shared}{a:Addr}{xs ys:List V}
theorem gZ.of{K:PySem.W.Frag}(h:H a=some (.lst xs)):gZ K H a xs:= .inl (.inl h)
theorem Ck.of{K:PySem.W.Frag}(h:H a=some (.tup xs)):Ck K H a xs:= .inl (.inl h)
theorem Inv.list(I:Inv X pins σ H s)(h:gZ X.K H a xs):∃its:List Value,Vals xs its∧PlainL s.heap a its.toArray∧xs.length≤sizeLine:=by
 rcases h with h|⟨o,its,n,hk,hc,hd,hs,hz,r⟩
 ·obtain⟨z,its,n,r,e⟩:=h.ok I.bR;exact⟨its,r,⟨_,n,e,rfl,rfl,rfl⟩,z⟩
 ·refine⟨its.toList,r,⟨o,n,I.o7 a o hk,hc,hd,by simpa using hs⟩,?_⟩;have e:=r.length;simp only[Array.length_toList]at e;omega
theorem Inv.tuple(I:Inv X pins σ H s)(h:Ck X.K H a xs):∃its:List Value,Vals xs its∧IsTup s.heap a its.toArray∧xs.length≤sizeLine:=by
 rcases h with h|⟨o,its,n,hk,hc,hs,hz,r⟩
 ·obtain⟨z,its,r,p⟩:=h.ok I.bR;exact⟨its,r,p,z⟩
 ·refine⟨its.toList,r,⟨o,I.o7 a o hk,hc,n,by simpa using hs⟩,?_⟩;have e:=r.length;simp only[Array.length_toList]at e;omega
theorem Inv.wO(I:Inv X pins σ H s)(h:gZ X.K H a xs)(h':gZ X.K H a ys):xs=ys:=by
 obtain⟨its,r,⟨o,n,e,_,_,d⟩,_⟩:=I.list h;obtain⟨its',r',⟨o',n',e',_,_,d'⟩,_⟩:=I.list h';rw[e]at e';cases e';rw[d]at d';injection d' with d1 _;have:its=its':=by simpa using congrArg Array.toList d1
 subst this;exact r.inj r'
end
abbrev Cx.Ue(X:Cx)(E:Value→Shared→Prop):Cx:={X with xe:=E}
section
variable{X:Cx}{pins:List (Addr×Obj)}{σ:St}{H:Hp}{s:Shared}{E:Value→Shared→Prop}
end
section
variable{X:Cx}{st:Stmt}{rest:List Stmt}{t u:TS}{e:Expr}{te:TE}{pos:Pos}
def Lm:TS:=fun D σ H=>D.nx σ H
def OY(t u:TS):TS:=fun D σ H=>t {D with nx:=u D} σ H
theorem aT:AU X [] Lm:=fun _ _ σ H _ I h=>wpAny_execs_nil ⟨σ,H,I,h⟩
theorem au(h1:PS X st t)(h2:AU X rest u):AU X (st::rest) (OY t u):=by
 intro pins s σ H D I h;refine wpAny_execs_cons (cy (h1 pins s σ H {D with nx:=u D} I h) fun f s1 q=>?_);cases f with
 |next=>
  obtain⟨bA,H',I',q⟩:=q;exact h2 pins s1 bA H' D I' q
 |ret v=>exact q
 |brk=>exact q
 |cont=>exact q
theorem ao(h1:PS X st t):AU X [st] t:=by
 intro pins s σ H D I h;refine wpAny_execs_cons (cy (h1 pins s σ H D I h) fun f s1 q=>?_);cases f with
 |next=>exact wpAny_execs_nil q
 |ret v=>exact q
 |brk=>exact q
 |cont=>exact q
theorem Inv.quiet{pins:List (Addr×Obj)}{σ:St}{H:Hp}{s:Shared}(I:Inv X pins σ H s):interactive X.env=false:=by simp[interactive,I.ok.kind]
def Ln(te:TE):TS:=fun D σ H=>te σ H fun _ H1=>D.nx σ H1
theorem aY(he:PE X e te)(hs:swapsWith e none pos.line X.env=pure false:=by rfl):PS X (.Expr e pos) (Ln te):=by
 intro pins s σ H D I h;exact wpAny_Expr_any (cy (he pins s σ H _ I h) fun v s1 ⟨x,H1,I1,r1,q1⟩=>⟨σ,H1,I1,q1⟩) I.quiet hs
def OZ(te:TE):TS:=fun D σ H=>te σ H D.rt
theorem aO(he:PE X e te):PS X (.Return (some e) pos) (OZ te):=by
 intro pins s σ H D I h;exact wpAny_Return_some (cy (he pins s σ H _ I h) fun v s1 ⟨x,H1,I1,r1,q1⟩=>⟨x,σ,H1,I1,r1,q1⟩)
def O0(c:TT)(t u:TS):TS:=fun D σ H=>c σ H fun b H1=>if b=true then t D σ H1 else u D σ H1
theorem bp{c:Expr}{a b:List Stmt}{tc:TT}(hc:PT X c tc)(ha:AU X a t)(hb:AU X b u):PS X (.If c a b pos) (O0 tc t u):=by
 intro pins s σ H D I h;refine wpAny_If (cy (hc pins s σ H _ I h) fun d s1 ⟨H1,I1,q1⟩=>?_);cases d with
 |true=>exact ha pins s1 σ H1 D I1 q1
 |false=>exact hb pins s1 σ H1 D I1 q1
end
abbrev TG:=V→St→Hp→(St→Hp→Prop)→Prop
abbrev Gy:=List V→St→Hp→(St→Hp→Prop)→Prop
def PG(X:Cx)(target:Expr)(t:TG):Prop:=
 ∀(pins:List (Addr×Obj))(s:Shared)(σ:St)(H:Hp)(v:V)(u:Value)(Q:St→Hp→Prop),Inv X pins σ H s→RelV v u→t v σ H Q→
  wpAny (model X.prog X.w) X.A (assign target X.env u) (fun _ s'=>∃bA H',Inv X pins bA H' s'∧Q bA H') X.xe s
def Lo(X:Cx)(ts:List Expr)(t:Gy):Prop:=
 ∀(pins:List (Addr×Obj))(s:Shared)(σ:St)(H:Hp)(vs:List V)(us:List Value)(Q:St→Hp→Prop),Inv X pins σ H s→Vals vs us→t vs σ H Q→
  wpAny (model X.prog X.w) X.A (assignInOrder ((assignEach ts X.env).map (·.2)) us) (fun _ s'=>∃bA H',Inv X pins bA H' s'∧Q bA H') X.xe s
abbrev Ib:=V→V→V→Hp→(Hp→Prop)→Prop
def Lp(X:Cx)(t:Ib):Prop:=
 ∀(pins:List (Addr×Obj))(s:Shared)(σ:St)(H:Hp)(o i v:V)(ov iv u:Value)(Q:Hp→Prop),Inv X pins σ H s→RelV o ov→RelV i iv→RelV v u→t o i v H Q→
  wpAny (model X.prog X.w) X.A (setItem ov iv u) (fun _ s'=>∃H',Inv X pins σ H' s'∧Q H') X.xe s
section
variable{X:Cx}{pos:Pos}
def YM(i:Nat):TG:=fun v σ H Q=>Q (σ.set i (some v)) H
theorem aK{i:Nat}{x:Str}(hN:X.N.Nodup)(hi:X.N[i]?=some x)(hx:Loc X.env.scope x)(hf:X.fn x=true∨X.env.scope.names.lookup x=some .local:=by first|exact .inl rfl|exact .inr rfl|assumption):PG X (.Name x pos) (YM i):=by
 intro pins s σ H v u Q I r h;exact wpAny_assign_Name (wM I hN hi hx r (fun s' I'=>⟨_,H,I',h⟩) hf)
def O1:Gy:=fun vs σ H Q=>vs=[]∧Q σ H
def Lq(t:TG)(u:Gy):Gy:=fun vs σ H Q=>∃v r,vs=v::r∧t v σ H fun bA H'=>u r bA H' Q
theorem g9:Lo X [] O1:=by
 intro pins s σ H vs us Q I r h;obtain⟨e,h⟩:=h;subst e;cases r;exact assignInOrder_nil ⟨σ,H,I,h⟩
theorem bF{e:Expr}{es:List Expr}{t:TG}{u:Gy}(h1:PG X e t)(h2:Lo X es u)
  (hs:(assignEach (e::es) X.env).map (·.2)=assign e X.env::(assignEach es X.env).map (·.2):=by rfl):Lo X (e::es) (Lq t u):=by
 intro pins s σ H vs us Q I r h;obtain⟨v,vr,e1,h⟩:=h;subst e1;cases r with
 |cons r rr=>
  rw[hs];refine assignInOrder_cons (cy (h1 pins s σ H _ _ _ I r h) fun _ s1 ⟨Kj,H1,I1,q1⟩=>?_);exact h2 pins s1 Kj H1 _ _ Q I1 rr q1
inductive Ic(K:PySem.W.Frag)(n:Nat)(t:Gy)(v:V)(σ:St)(H:Hp)(Q:St→Hp→Prop):Prop
 |mk (a:_) (xs:_) (_:v= .ref a) (_:Ck K H a xs) (_:xs.length=n) (_:t xs σ H Q):Ic K n t v σ H Q
theorem Ie{es:List Expr}{k:Nat}{t:Gy}{n:Nat}(hc:X.calm=true)(h:Lo X es t)
  (hn:(assignEach es X.env).length=n:=by rfl) (ua:(assignEach es X.env).findIdx? (·.1)=none:=by rfl):PG X (.Tuple es k pos) (Ic X.K n t):=by
 intro pins s σ H v u Q I r hw;obtain⟨a,xs,e1,hq,hl,hw⟩:=hw;subst e1;cases r;obtain⟨its,rv,ht,hz⟩:=I.tuple hq;refine assign_Tuple_tuple (I.ok.hd hc) ht (by simp[hn,←hl,rv.length]) ua fun h' hx=>?_
 have I1:Inv X pins σ H {s with heap:=h'}:=I.kept (t':=s.toks) fun b o e=>hx b o (Nat.ne_of_lt (Heap.lt_size e)) e
 exact h pins _ σ H xs _ Q I1 (by simpa using rv) hw
def O2(to ti:TE)(t:Ib):TG:=fun v σ H Q=>to σ H fun o H1=>ti σ H1 fun i H2=>t o i v H2 fun H3=>Q σ H3
theorem Ig{o i:Expr}{to ti:TE}{t:Ib}(ho:PE X o to)(hi:PE X i ti)(hs:Lp X t)
  (ha:∀v,assign (.Subscript o i pos) X.env v=(do
   let ov←holding [v] (eval o X.env)
   let iv←holding [v,ov] (eval i X.env)
   standAt pos
   holding [v,ov,iv] (setItem ov iv v)
   release [v,ov,iv] []):=by intro _;rfl):PG X (.Subscript o i pos) (O2 to ti t):=by
 intro pins s σ H v u Q I r h;rw[ha];refine wpAny_bind (wpAny_holding (cy (ho pins s σ H _ I h) fun ov s1 ⟨x,H1,I1,r1,q1⟩=>?_));refine wpAny_bind (wpAny_holding (cy (hi pins s1 σ H1 _ I1 q1) fun iv s2 ⟨y,H2,I2,r2,q2⟩=>?_));refine wpAny_bind (wpAny_standAt (wpAny_bind (wpAny_holding (cy (hs pins s2 σ H2 x y v ov iv u _ I2 r1 r2 r q2) fun _ s3 ⟨H3,I3,q3⟩=>?_))));exact wpAny_release ⟨σ,H3,I3,q3⟩
def Ih(te:TE)(g:TG):TS:=fun D σ H=>te σ H fun x H1=>g x σ H1 D.nx
theorem Cm{tg e:Expr}{te:TE}{g:TG}(he:PE X e te)(hg:PG X tg g)(hs:swapsWithSole [tg] e pos.line X.env=pure false:=by rfl)(hw:swappedStores [tg] e X.env=pure none:=by rfl)
  (h1:(assignEach [tg] X.env).map (·.2)=[assign tg X.env]:=by rfl):PS X (.Assign [tg] e pos) (Ih te g):=by
 intro pins s σ H D I h;refine wpAny_Assign_stores (cy (he pins s σ H _ I h) fun v s1 ⟨x,H1,I1,r1,q1⟩=>?_) hs hw;rw[h1];exact cy (hg pins s1 σ H1 x v _ I1 r1 q1) fun _ s2 q=>q
theorem aC{i:Nat}{x:Str}{e:Expr}{te:TE}{pos':Pos}(hN:X.N.Nodup)(hi:X.N[i]?=some x)(hx:Loc X.env.scope x)(he:PE X e te)(hs:swapsWith e (some (.Name x pos')) pos.line X.env=pure false:=by rfl)(hf:X.fn x=true∨X.env.scope.names.lookup x=some .local:=by first|exact .inl rfl|exact .inr rfl|assumption):
  PS X (.Assign [.Name x pos'] e pos) (Ih te (YM i)):=by
 intro pins s σ H D I h;refine wpAny_Assign_Name (cy (he pins s σ H _ I h) fun v s1 ⟨y,H1,I1,r1,q1⟩=>?_) hs;exact wM I1 hN hi hx r1 (fun s2 I2=>⟨_,H1,I2,q1⟩) hf
end
section
variable{X:Cx}{pos:Pos}
def Ii(c:TT)(tb:TS):TS:=fun D σ H=>∃W:Nat→St→Hp→Prop,(∃m,W m σ H)∧∀m σ H,W m σ H→
 c σ H fun b H1=>if b=true then ∃N:St→Hp→Prop,(∀bA H',N bA H'→∃m',m'<m∧W m' bA H')∧tb {D with nx:=N,ct:=N,bk:=D.nx} σ H1 else D.nx σ H1
theorem rl{c:Expr}{body:List Stmt}{tc:TT}{tb:TS}(hp:PassesOwn (model X.prog X.w) X.A X.env X.xe)(hc:PT X c tc)(hb:AU X body tb):PS X (.While c body [] pos) (Ii tc tb):=by
 intro pins s σ H D I h;obtain⟨W,⟨m0,w0⟩,turn⟩:=h;refine wpAny_While (codeAny_whileLoop (fun n s'=>∃bA H',Inv X pins bA H' s'∧W n bA H') ?_ m0 ⟨σ,H,I,w0⟩);rintro n s1 ⟨Kj,H1,I1,w1⟩;refine wpAny_passesOwn hp (cy (hc pins s1 Kj H1 _ I1 (turn n Kj H1 w1)) fun b s2 ⟨H2,I2,q2⟩=>?_);cases b with
 |true=>
  obtain⟨N,hN,q2⟩:=q2;rw[if_pos rfl];refine wpAny_passesOwn hp (cy (hb pins s2 Kj H2 _ I2 q2) fun f s3 q3=>?_);cases f with
  |next=>
   obtain⟨Cn,H3,I3,n3⟩:=q3;obtain⟨m',hm,w3⟩:=hN Cn H3 n3;exact⟨m',hm,Cn,H3,I3,w3⟩
  |cont=>
   obtain⟨Cn,H3,I3,n3⟩:=q3;obtain⟨m',hm,w3⟩:=hN Cn H3 n3;exact⟨m',hm,Cn,H3,I3,w3⟩
  |brk=>exact q3
  |ret v=>exact q3
 |false=>
  rw[XE Bool.false_ne_true];exact wpAny_execs_nil ⟨Kj,H2,I2,q2⟩
end
structure It where
 go:Nat→Hp→Prop
 EM:Nat→Hp→V→Hp→Prop
 stop:Nat→Hp→Prop
def gS(X:Cx)(pins:List (Addr×Obj))(H:Hp)(b:Addr):Prop:=
 H b=none∧b≠X.env.locals∧b∉X.fs∧(b∈X.ex∨X.c_.heap.objs.size≤b)∧(∀x c,X.env.cells.lookup x=some c→c≠b)∧∀p∈X.pn++pins,p.1≠b
theorem Inv.s_{X:Cx}{pins:List (Addr×Obj)}{σ:St}{H H':Hp}{s:Shared}{b:Addr}(I:Inv X pins σ H s)(hb:s.heap.objs.size≤b)(hn:H' b=none):gS X pins H' b:=by
 refine⟨hn,Nat.ne_of_gt (Nat.lt_of_lt_of_le I.lt hb),I.OO hb, .inr (Nat.le_trans I.sz hb),fun x c e z=>?_,fun p hp z=>?_⟩
 ·obtain⟨v,q⟩:=I.cell x c e;exact absurd (Nat.lt_of_lt_of_le q.lt (by rw[z];exact hb)) (Nat.lt_irrefl _)
 ·exact absurd (Nat.lt_of_lt_of_le (Heap.lt_size (I.pin p hp).1) (by rw[z];exact hb)) (Nat.lt_irrefl _)
structure Turn(P:Program)(w:World)(K:PySem.W.Frag)(tg:Expr)(J:It)(fp:List Addr)(it:Addr)(tn:Nat→Heap→Prop):Prop where
 mem:it∈fp
 obj:∀i h,tn i h→∀b∈fp,∃o,h.get? b=some o∧∀v,o.data≠ .cell v
 keep:∀i h h',tn i h→(∀b∈fp,∀o,h.get? b=some o→h'.get? b=some o)→tn i h'
 item:∀(X:Cx),X.prog=P→X.w=w→X.K=K→X.calm=true→∀(i:Nat)(pins:List (Addr×Obj))(s:Shared)(σ:St)(H:Hp)(E:Value→Shared→Prop),Inv X pins σ H s→(∀b∈fp,gS X pins H b)→tn i s.heap→J.go i H→
  wpAny (model P w) X.A (pyNext (.ref it)) (fun r s1=>∃u,r=some u∧
   wpAny (model P w) X.A (letOwnedTupleGo tg (.ref it) u) (fun _ s2=>∃x H',Inv X pins σ H' s2∧RelV x u∧J.EM i H x H'∧tn (i+1) s2.heap∧∀b∈fp,H' b=none) E s1) E s
 done:∀(X:Cx),X.prog=P→X.w=w→X.K=K→X.calm=true→∀(i:Nat)(pins:List (Addr×Obj))(s:Shared)(σ:St)(H:Hp)(E:Value→Shared→Prop),Inv X pins σ H s→(∀b∈fp,gS X pins H b)→tn i s.heap→J.stop i H→
  wpAny (model P w) X.A (pyNext (.ref it)) (fun r s1=>r=none∧Inv X pins σ H s1) E s
 self:∀(A:Around)(i:Nat)(s:Shared)(Q:Value→Shared→Prop)(E:Value→Shared→Prop),tn i s.heap→Q (.ref it) s→wpAny (model P w) A (pyIter (.ref it)) Q E s
abbrev TI:=St→Hp→(It→Hp→Prop)→Prop
def O3(X:Cx)(pins:List (Addr×Obj))(σ:St)(tg:Expr)(R:It→Hp→Prop)(O4:Value)(s2:Shared):Prop:=
 ∃(it:Addr)(fp:List Addr)(tn:Nat→Heap→Prop)(J:It)(H':Hp),O4= .ref it∧Inv X pins σ H' s2∧Turn X.prog X.w X.K tg J fp it tn∧tn 0 s2.heap∧(∀b∈fp,gS X pins H' b)∧R J H'
def PI(X:Cx)(tg iter:Expr)(wi:TI):Prop:=
 ∀(pins:List (Addr×Obj))(s:Shared)(σ:St)(H:Hp)(R:It→Hp→Prop),Inv X pins σ H s→wi σ H R→
  wpAny (model X.prog X.w) X.A (eval iter X.env) (fun v s1=>wpAny (model X.prog X.w) X.A (pyIter v) (O3 X pins σ tg R) X.xe s1) X.xe s
theorem wQ{M:Model}{A:Around}{E:Value→Shared→Prop}{s:Shared}{tg:Expr}{it:Addr}{u:Value}{o:Obj}{n:String}{vs:Array Value}{Q:Unit→Shared→Prop}(ho:s.heap.get? it=some o)(hc:o.cls= .type n)(hd:o.data= .fields vs)
  (hn:["enumerate","zip","dict_itemiterator","dict_reverseitemiterator","odict_iterator","itertools.zip_longest","itertools.pairwise"].contains n=false) (hQ:Q () s):wpAny M A (letOwnedTupleGo tg (.ref it) u) Q E s:=by
 unfold letOwnedTupleGo;cases tg<;>first
  |exact wpAny_pure hQ
  |(cases u<;>first
    |exact wpAny_pure hQ
    |(refine wpAny_bind (wpAny_load ho ?_)
      rw[hc,hd];show wpAny M A (if (["enumerate","zip","dict_itemiterator","dict_reverseitemiterator","odict_iterator","itertools.zip_longest","itertools.pairwise"].contains n&&vs[0]?==some (rawInt _))=true then _ else _) Q E s;rw[XE (by intro h;rw[hn,Bool.false_and]at h;cases h)];exact wpAny_pure hQ))
def Kk(K:PySem.W.Frag)(a:Addr):It:=
 ⟨fun i H=>∃xs x,gZ K H a xs∧xs[i]?=some x,fun i H x H'=>H'=H∧∀xs,gZ K H a xs→xs[i]?=some x,fun i H=>∃xs,gZ K H a xs∧xs.length≤i⟩
def Gz(lo:Int)(n:Nat):It:=⟨fun i _=>i<n,fun i H x H'=>H'=H∧x= .int (lo+i),fun i _=>n≤i⟩
theorem AW{P:Program}{w:World}{K:PySem.W.Frag}{tg:Expr}(a it:Addr):Turn P w K tg (Kk K a) [it] it (fun i h=>h.IsListIter it a i) where
 mem:=XX
 obj:=fun i h st b hb=>by
  have e:b=it:=by simpa using hb
  subst e;obtain⟨o,e,c,d⟩:=st;exact⟨o,e,fun v z=>by rw[d]at z;cases z⟩
 keep:=fun i h h' st k=>st.at fun o e=>k it (XX) o e
 item:=by
  intro X hP hw hK hc i pins s σ H E I hf st hg;subst hP hw hK;obtain⟨xs,x,hq,hx⟩:=hg;obtain⟨its,rv,p,hz⟩:=I.list hq;obtain⟨u,hu,ru⟩:=rv.get hx;obtain⟨f0,f1,f2,f3,f4,f5⟩:=hf it (XX);refine wpAny_pyNext_list_item st p.isList (x:=u) (by simpa using hu) fun h' aP sb=>?_
  have I1:Inv X pins σ H {s with heap:=h'}:=I.turned (t':=s.toks) (fun b o hb e=>(sb.2 b hb).trans e) f0 f1 f3 f4 f5;obtain⟨o,e,c,d⟩:=id aP;exact⟨u,rfl,wQ (s:={s with heap:=h'}) e c d (XU) ⟨x,H,I1,ru,⟨rfl,fun ys hy=>by rw[I.wO hy hq];exact hx⟩,aP,fun b hb=>(hf b hb).1⟩⟩
 done:=by
  intro X hP hw hK hc i pins s σ H E I hf st hg;subst hP hw hK;obtain⟨xs,hq,hx⟩:=hg;obtain⟨its,rv,p,hz⟩:=I.list hq;obtain⟨f0,f1,f2,f3,f4,f5⟩:=hf it (XX);have hl:=rv.length;exact wpAny_pyNext_list_end (I.ok.hd hc) st p.isList (by simp;omega) fun h' eb=>⟨rfl,I.turned (t':=s.toks) (fun b o hb e=>eb b o hb e) f0 f1 f3 f4 f5⟩
 self:=fun _ _ _ _ _ st h=>wpAny_pyIter_listiter st h
theorem ZI{P:Program}{w:World}{K:PySem.W.Frag}{tg:Expr}(it:Addr)(lo:Int)(n:Nat):Turn P w K tg (Gz lo n) [it] it (fun i h=>IsRangeIter h it (lo+(i:Nat)*1) ((n:Int)-(i:Nat)) 1) where
 mem:=XX
 obj:=fun i h st b hb=>by
  have e:b=it:=by simpa using hb
  subst e;exact⟨_,st,fun v z=>by
   have z':Data.fields _=Data.cell v:=z;cases z'⟩
 keep:=fun i h h' st k=>k it (XX) _ st
 item:=by
  intro X hP hw hK hc i pins s σ H E I hf st hg;subst hP hw hK;obtain⟨f0,f1,f2,f3,f4,f5⟩:=hf it (XX);have W:=Walks.range (prog:=X.prog) (w:=X.w) (I.ok.hd hc) it lo 1 n;refine W.item i s _ _ hg st fun v h' tk hv aP kk=>?_
  obtain⟨t,rfl⟩:=hv;have I1:Inv X pins σ H {s with heap:=h',toks:=tk}:=I.turned (fun b o hb e=>kk b o (by simpa using hb) e) f0 f1 f3 f4 f5;refine⟨_,rfl,wQ (s:={s with heap:=h',toks:=tk}) (n:="range_iterator") aP rfl rfl (XU) ⟨.int (lo+i),H,I1,⟨t,?_⟩,⟨rfl,rfl⟩,aP,fun b hb=>(hf b hb).1⟩⟩;rw[Int.mul_one]
 done:=by
  intro X hP hw hK hc i pins s σ H E I hf st hg;subst hP hw hK;obtain⟨f0,f1,f2,f3,f4,f5⟩:=hf it (XX);exact wpAny_pyNext_range_end (I.ok.hd hc) st (by have:n≤i:=hg;omega) fun h' eb=>⟨rfl,I.turned (t':=s.toks) (fun b o hb e=>eb b o hb e) f0 f1 f3 f4 f5⟩
 self:=fun _ _ _ _ _ st h=>wpAny_pyIter_rangeiter st h
section
variable{X:Cx}{tg:Expr}
def GA(K:PySem.W.Frag)(tl:TE):TI:=fun σ H R=>tl σ H fun x H1=>∃a,x= .ref a∧(∃xs,gZ K H1 a xs)∧R (Kk K a) H1
theorem EN{l:Expr}{tl:TE}(hl:PE X l tl):PI X tg l (GA X.K tl):=by
 intro pins s σ H R I h;refine cy (hl pins s σ H _ I h) fun v s1 ⟨x,H1,I1,r1,q1⟩=>?_
 obtain⟨a,e,⟨xs,hq⟩,q⟩:=q1;subst e;cases r1;obtain⟨its,rv,p,hz⟩:=I1.list hq;refine wpAny_pyIter_list p.isList ?_;refine⟨s1.heap.objs.size,[s1.heap.objs.size],_,_,H1,rfl,I1.kept (t':=s1.toks) fun b o e=>XD e,AW a _,⟨_,Heap.get?_push_size _ rfl,rfl,rfl⟩,fun b hb=>?_,q⟩;have e:b=s1.heap.objs.size:=by simpa using hb
 subst e;exact I1.s_ (Nat.le_refl _) (I1.bR.fresh (Nat.le_refl _))
theorem wR{pins:List (Addr×Obj)}{σ:St}{H:Hp}{s:Shared}{R:It→Hp→Prop}{E:Value→Shared→Prop}{lo hi:Int}{t u v:Tok}{tk:Nat}(I:Inv X pins σ H s)(h1:-(2^62)≤lo)(h2:lo<2^62)(h3:-(2^62)≤hi)(h4:hi<2^62)
  (q:R (Gz lo (hi-lo).toNat) H):wpAny (model X.prog X.w) X.A (pyIter (.ref s.heap.objs.size)) (O3 X pins σ tg R) E {s with heap:=s.heap.push {cls:= .type "range",data:= .fields #[.int lo t, .int hi u, .int 1 v]},toks:=tk}:=by
 refine wpAny_pyIter_range (IsRange.new ..) (small_one h1 h2 h3 h4) ?_;have I1:Inv X pins σ H {s with heap:=s.heap.push {cls:= .type "range",data:= .fields #[.int lo t, .int hi u, .int 1 v]},toks:=tk}:=I.kept fun b o e=>XD e
 refine⟨(s.heap.push {cls:= .type "range",data:= .fields #[.int lo t, .int hi u, .int 1 v]}).objs.size,[(s.heap.push {cls:= .type "range",data:= .fields #[.int lo t, .int hi u, .int 1 v]}).objs.size],_,_,H,rfl,
  I1.kept (t':=tk) fun b o e=>XD e,ZI _ lo (hi-lo).toNat,?_,fun b hb=>?_,q⟩
 ·have e1:lo+((0:Nat):Int)*1=lo:=XX;have e2:(((hi-lo).toNat:Nat):Int)-((0:Nat):Int)=Builtin.Range.rangeSize lo hi 1:=by rw[rangeSize_one];split<;>omega
  show IsRangeIter _ _ (lo+((0:Nat):Int)*1) ((((hi-lo).toNat:Nat):Int)-((0:Nat):Int)) 1;rw[e1,e2];exact Heap.get?_push_size _ rfl
 ·have e:b=(s.heap.push {cls:= .type "range",data:= .fields #[.int lo t, .int hi u, .int 1 v]}).objs.size:=by simpa using hb
  subst e;exact I1.s_ (Nat.le_refl _) (I1.bR.fresh (Nat.le_refl _))
def Lr(ta:TA):TI:=fun σ H R=>ta σ H fun vs H1=>∃j:Int,vs=[.int j]∧-(2^62)≤j∧j<2^62∧R (Gz 0 j.toNat) H1
def Ls(ta:TA):TI:=fun σ H R=>ta σ H fun vs H1=>∃i j:Int,vs=[.int i, .int j]∧(-(2^62)≤i∧i<2^62∧-(2^62)≤j∧j<2^62)∧R (Gz i (j-i).toNat) H1
theorem eX{a:Expr}{ta:TA}{p pos:Pos}(hg:Gl X "range")(hm:X.mg "range"=none)(ha:PA X [a] ta)(hs:starEach [a] X.env=[(false,eval a X.env)]:=by rfl):PI X tg (.Call (.Name "range" p) [a] [] pos) (Lr ta):=by
 intro pins s σ H R I h;refine Call_ (jR I hg hm boot_range (PyProof.Rows.callWith_type1 (cy (ha pos pins s σ H _ I h) fun us s1 ⟨vs,H1,I1,r1,q1⟩=>?_) hs rfl));obtain⟨j,e,q1,q2,q⟩:=q1;subst e;cases r1 with
 |cons r rr=>
  cases rr;obtain⟨t,rfl⟩:=r;exact call_range_1 (wR I1 XQ (XT) q1 q2 (by simpa using q))
theorem AX{a b:Expr}{ta:TA}{p pos:Pos}(hg:Gl X "range")(hm:X.mg "range"=none)(ha:PA X [a,b] ta)(hs:starEach [a,b] X.env=[(false,eval a X.env),(false,eval b X.env)]:=by rfl)(Ex:starEach [b] X.env=[(false,eval b X.env)]:=by rfl):
  PI X tg (.Call (.Name "range" p) [a,b] [] pos) (Ls ta):=by
 intro pins s σ H R I h;refine Call_ (jR I hg hm boot_range (PyProof.Rows.callWith_type1 (cy (ha pos pins s σ H _ I h) fun us s1 ⟨vs,H1,I1,r1,q1⟩=>?_) (by rw[hs,Ex]) (by rw[Ex];rfl)));obtain⟨i,j,e,⟨q1,q2,q3,q4⟩,q⟩:=q1;subst e;cases r1 with
 |cons r rr=>
  cases rr with
  |cons r' rr=>
   cases rr;obtain⟨t,rfl⟩:=r;obtain⟨t',rfl⟩:=r';exact call_range_2 (wR I1 q1 q2 q3 q4 q)
def O5(wi:TI)(g:TG)(tb:TS):TS:=fun D σ H=>wi σ H fun J H1=>∃W:Nat→Nat→St→Hp→Prop,(∃m,W 0 m σ H1)∧∀i m σ H,W i m σ H→
 (J.stop i H∧D.nx σ H)∨(J.go i H∧∃N:St→Hp→Prop,(∀bA H',N bA H'→∃m',m'<m∧W (i+1) m' bA H')∧∀x H',J.EM i H x H'→g x σ H' fun fI H2=>tb {D with nx:=N,ct:=N,bk:=D.nx} fI H2)
def rm(fp:List Addr)(h:Heap):List (Addr×Obj):=fp.filterMap fun b=>(h.get? b).map fun o=>(b,o)
theorem gj{fp:List Addr}{h:Heap}{b:Addr}{o:Obj}(hb:b∈fp)(e:h.get? b=some o):(b,o)∈rm fp h:=List.mem_filterMap.mpr ⟨b,hb,by rw[e];rfl⟩
theorem AY{fp:List Addr}{h:Heap}{p:Addr×Obj}(hp:p∈rm fp h):p.1∈fp∧h.get? p.1=some p.2:=by
 obtain⟨b,hb,e⟩:=List.mem_filterMap.mp hp;cases q:h.get? b with
 |none=>rw[q]at e;cases e
 |some o=>
  rw[q]at e;have e':(b,o)=p:=XM e;subst e';exact⟨hb,q⟩
theorem Inv.pinned{pins:List (Addr×Obj)}{σ:St}{H:Hp}{s:Shared}{fp:List Addr}(I:Inv X pins σ H s)(hf:∀b∈fp,gS X pins H b)(ho:∀b∈fp,∃o,s.heap.get? b=some o∧∀v,o.data≠ .cell v):Inv X (pins++rm fp s.heap) σ H s:=
 I.Yu fun p hp=>(List.mem_append.mp hp).elim (fun z=>I.pin p (List.mem_append_right _ z)) fun z=>by
  obtain⟨hb,e⟩:=AY z;obtain⟨f0,f1,f2,_⟩:=hf p.1 hb;obtain⟨o,e',d⟩:=ho p.1 hb;rw[e]at e';cases e';exact⟨e,f0,f1,f2,d⟩
theorem Inv.kF{pins pl:List (Addr×Obj)}{σ:St}{H:Hp}{s:Shared}(I:Inv X (pins++pl) σ H s):Inv X pins σ H s:=I.Yu fun p hp=>I.pin p (List.mem_append_right _ (List.mem_append_left _ hp))
theorem bL{iter:Expr}{body:List Stmt}{wi:TI}{g:TG}{tb:TS}{pos:Pos}(hp:PassesOwn (model X.prog X.w) X.A X.env X.xe)(hc:X.calm=true)(hi:PI X tg iter wi)(hg:PG X tg g)(hb:AU X body tb)
  (hs:∀x,foldedSetIterable iter X.env x=pure x:=by intro _;rfl):PS X (.For tg iter body [] pos) (O5 wi g tb):=by
 intro pins s σ H D I h;refine wpAny_For (cy (hi pins s σ H _ I h) fun v s1 h1=>cy h1 fun O4 s2 h2=>?_) hs;obtain⟨it,fp,tn,J,H2,e,I2,T,dF,f2,W,⟨m0,w0⟩,turn⟩:=h2;subst e;have Y9:∀{H':Hp},(∀b∈fp,H' b=none)→∀b∈fp,gS X pins H' b:=fun hn b hb=>⟨hn b hb,(f2 b hb).2⟩
 refine codeAny_forLoop_any (fun n s'=>∃i bA H',Inv X pins bA H' s'∧tn i s'.heap∧(∀b∈fp,H' b=none)∧W i n bA H') ?_ m0 ⟨0,σ,H2,I2,dF,fun b hb=>(f2 b hb).1,w0⟩;rintro n s3 ⟨i,Cn,H3,I3,Co,Kl,w3⟩;rcases turn i n Cn H3 w3 with⟨stop,qn⟩|⟨go,N,hN,step⟩
 ·refine wpAny_passesOwn hp (cy (T.done X rfl rfl rfl hc i pins s3 Cn H3 X.xe I3 (Y9 Kl) Co stop) fun r s4 ⟨hr,I4⟩=>?_);subst hr;exact wpAny_execs_nil ⟨Cn,H3,I4,qn⟩
 ·refine wpAny_passesOwn hp (cy (T.item X rfl rfl rfl hc i pins s3 Cn H3 X.xe I3 (Y9 Kl) Co go) fun r s4 ⟨u,hr,h4⟩=>?_);subst hr;refine wpAny_passesOwn hp (cy h4 fun _ s5 ⟨x,H5,I5,r5,y5,Km,NA⟩=>?_);have Ug:=I5.pinned (Y9 NA) (T.obj _ _ Km);refine wpAny_passesOwn hp (cy (hg _ s5 Cn H5 x u _ Ug r5 (step x H5 y5)) fun _ s6 ⟨Uh,H6,I6,q6⟩=>?_);refine wpAny_passesOwn hp (cy (hb _ s6 Uh H6 _ I6 q6) fun f s7 q7=>?_);have again:∀{Cp:St}{H7:Hp},Inv X (pins++rm fp s5.heap) Cp H7 s7→N Cp H7→∃m,m<n∧∃i bA H',Inv X pins bA H' s7∧tn i s7.heap∧(∀b∈fp,H' b=none)∧W i m bA H':=fun{Cp H7} I7 n7=>by
   obtain⟨m',hm,w7⟩:=hN Cp H7 n7;refine⟨m',hm,i+1,Cp,H7,I7.kF,T.keep _ _ _ Km fun b hb o e=>(I7.pin (b,o) (List.mem_append_right _ (List.mem_append_right _ (gj hb e)))).1,fun b hb=>?_,w7⟩;obtain⟨o,e,d⟩:=T.obj _ _ Km b hb;exact(I7.pin (b,o) (List.mem_append_right _ (List.mem_append_right _ (gj hb e)))).2.1
  cases f with
  |next=>obtain⟨Cp,H7,I7,n7⟩:=q7;exact again I7 n7
  |cont=>obtain⟨Cp,H7,I7,n7⟩:=q7;exact again I7 n7
  |brk=>obtain⟨Cp,H7,I7,q7⟩:=q7;exact⟨Cp,H7,I7.kF,q7⟩
  |ret v=>obtain⟨x7,Cp,H7,I7,r7,q7⟩:=q7;exact⟨x7,Cp,H7,I7.kF,r7,q7⟩
end
theorem cG{K:PySem.W.Frag}{a:Addr}{xs:List V}{g:TG}{tb:TS}{D:Ends}{σ:St}{H:Hp}(Pv:Nat→St→Hp→Prop)(h0:Pv 0 σ H)(hl:∀i σ H,i≤xs.length→Pv i σ H→gZ K H a xs)
  (hs:∀i x σ H,xs[i]?=some x→Pv i σ H→g x σ H fun fI H2=>tb {D with nx:=Pv (i+1),ct:=Pv (i+1),bk:=D.nx} fI H2) (hd:∀σ H,Pv xs.length σ H→D.nx σ H):
  ∃W:Nat→Nat→St→Hp→Prop,(∃m,W 0 m σ H)∧∀i m σ H,W i m σ H→
   ((Kk K a).stop i H∧D.nx σ H)∨((Kk K a).go i H∧∃N:St→Hp→Prop,(∀bA H',N bA H'→∃m',m'<m∧W (i+1) m' bA H')∧∀x H',(Kk K a).EM i H x H'→g x σ H' fun fI H2=>tb {D with nx:=N,ct:=N,bk:=D.nx} fI H2):=by
 refine⟨fun i m σ H=>m=xs.length-i∧i≤xs.length∧Pv i σ H,⟨xs.length,XX,Nat.zero_le _,h0⟩,?_⟩;rintro i m σ H ⟨rfl,hi,p⟩;have q:=hl i σ H hi p;by_cases gK:i<xs.length
 ·refine .inr ⟨⟨xs,xs[i],q,by simp[gK]⟩,Pv (i+1),fun bA H' p'=>⟨xs.length-(i+1),XT,rfl,gK,p'⟩,fun x H' y=>?_⟩;obtain⟨e,y⟩:=y;subst e;exact hs i x σ _ (y xs q) p
 ·have e:i=xs.length:=XT;subst e;exact .inl ⟨⟨xs,q,Nat.le_refl _⟩,hd σ H p⟩
theorem eY{lo:Int}{n:Nat}{g:TG}{tb:TS}{D:Ends}{σ:St}{H:Hp}(Pv:Nat→St→Hp→Prop)(h0:Pv 0 σ H)
  (hs:∀i σ H,i<n→Pv i σ H→g (.int (lo+i)) σ H fun fI H2=>tb {D with nx:=Pv (i+1),ct:=Pv (i+1),bk:=D.nx} fI H2) (hd:∀σ H,Pv n σ H→D.nx σ H):
  ∃W:Nat→Nat→St→Hp→Prop,(∃m,W 0 m σ H)∧∀i m σ H,W i m σ H→
   ((Gz lo n).stop i H∧D.nx σ H)∨((Gz lo n).go i H∧∃N:St→Hp→Prop,(∀bA H',N bA H'→∃m',m'<m∧W (i+1) m' bA H')∧∀x H',(Gz lo n).EM i H x H'→g x σ H' fun fI H2=>tb {D with nx:=N,ct:=N,bk:=D.nx} fI H2):=by
 refine⟨fun i m σ H=>m=n-i∧i≤n∧Pv i σ H,⟨n,XX,Nat.zero_le _,h0⟩,?_⟩;rintro i m σ H ⟨rfl,hi,p⟩;by_cases gK:i<n
 ·refine .inr ⟨gK,Pv (i+1),fun bA H' p'=>⟨n-(i+1),XT,rfl,gK,p'⟩,fun x H' y=>?_⟩;obtain⟨e,y⟩:=y;subst e y;exact hs i σ _ gK p
 ·have e:i=n:=XT;subst e;exact .inl ⟨Nat.le_refl _,hd σ H p⟩
abbrev R2:=V→V→Hp→VK→Prop
def qT(X:Cx)(f:Value→Value→Sem Value)(r:R2):Prop:=
 ∀(pins:List (Addr×Obj))(s:Shared)(σ:St)(H:Hp)(x y:V)(v u:Value)(Q:VK),Inv X pins σ H s→RelV x v→RelV y u→r x y H Q→
  wpAny (model X.prog X.w) X.A (f v u) (EP X pins σ Q) X.xe s
def O6(X:Cx)(f:Value→Sem Value)(r:V→Hp→VK→Prop):Prop:=
 ∀(pins:List (Addr×Obj))(s:Shared)(σ:St)(H:Hp)(x:V)(v:Value)(Q:VK),Inv X pins σ H s→RelV x v→r x H Q→
  wpAny (model X.prog X.w) X.A (f v) (EP X pins σ Q) X.xe s
def gL(X:Cx)(f:Value)(r:List V→Hp→VK→Prop):Prop:=
 ∀(pins:List (Addr×Obj))(s:Shared)(σ:St)(H:Hp)(xs:List V)(us:List Value)(Q:VK),Inv X pins σ H s→Vals xs us→r xs H Q→
  wpAny (model X.prog X.w) X.A (call f us) (EP X pins σ Q) X.xe s
def NB(r:R2)(ta tb:TE):TE:=fun σ H Q=>ta σ H fun x H1=>tb σ H1 fun y H2=>r x y H2 Q
def Ui(r:V→Hp→VK→Prop)(ta:TE):TE:=fun σ H Q=>ta σ H fun x H1=>r x H1 Q
inductive rI(C:Int→Int→Prop)(g:Int→Int→V)(x:V)(y:V)(H:Hp)(Q:VK):Prop
 |mk (i:_) (j:_) (_:x= .int i) (_:y= .int j) (_:C i j) (_:Q (g i j) H):rI C g x y H Q
inductive EO(g:Int→Int→V)(x:V)(y:V)(H:Hp)(Q:VK):Prop
 |mk (i:_) (j:_) (_:x= .int i) (_:y= .int j) (_:Q (g i j) H):EO g x y H Q
inductive rU(g:Int→V)(x:V)(H:Hp)(Q:VK):Prop
 |mk (i:_) (_:x= .int i) (_:Q (g i) H):rU g x H Q
section
variable{X:Cx}{a b c:Expr}{ta tb tc:TE}{pos:Pos}
theorem Ij(ha:PE X a ta)(hb:PE X b tb){pins:List (Addr×Obj)}{s:Shared}{σ:St}{H:Hp}{R:V→V→Hp→Prop}(I:Inv X pins σ H s)
  (h:ta σ H fun x H1=>tb σ H1 fun y H2=>R x y H2) {Q:Value→Shared→Prop} {f:Value→Value→Sem Value}
  (hf:∀v u s2 x y H2,Inv X pins σ H2 s2→RelV x v→RelV y u→R x y H2→wpAny (model X.prog X.w) X.A (f v u) Q X.xe s2):
  wpAny (model X.prog X.w) X.A (eval a X.env) (fun v bX=>wpAny (model X.prog X.w) X.A (eval b X.env) (fun u o8=>wpAny (model X.prog X.w) X.A (f v u) Q X.xe o8) X.xe bX) X.xe s:=by
 refine cy (ha pins s σ H _ I h) fun v s1 ⟨x,H1,I1,r1,q1⟩=>?_
 refine cy (hb pins s1 σ H1 _ I1 q1) fun u s2 ⟨y,H2,I2,r2,q2⟩=>?_
 exact hf v u s2 x y H2 I2 r1 r2 q2
theorem aG{op:Operator}{r:R2}(ho:qT X (binaryOp op) r)(ha:PE X a ta)(hb:PE X b tb):PE X (.BinOp a op b pos) (NB r ta tb):=by
 intro pins s σ H Q I h;exact wpAny_BinOp (Ij ha hb I h fun v u s2 x y H2 I2 rx ry q=>ho pins s2 σ H2 x y v u Q I2 rx ry q)
theorem l0{op:UnaryOp}{r:V→Hp→VK→Prop}(ho:O6 X (unaryOp op) r)(ha:PE X a ta):PE X (.UnaryOp op a pos) (Ui r ta):=by
 intro pins s σ H Q I h;exact UnaryOp_ (cy (ha pins s σ H _ I h) fun v s1 ⟨x,H1,I1,r1,q1⟩=>ho pins s1 σ H1 x v Q I1 r1 q1)
theorem O7{f:Value→Value→Sem Value}{C:Int→Int→Prop}{g:Int→Int→Int}
  (rule:∀(i j:Int)(t u:Tok)(s:Shared)(Q:Value→Shared→Prop)(E:Value→Shared→Prop),C i j→Q (.int (g i j) s.toks) {s with toks:=s.toks+1}→wpAny (model X.prog X.w) X.A (f (.int i t) (.int j u)) Q E s):
  qT X f (rI C fun i j=> .int (g i j)):=by
 intro pins s σ H x y v u Q I rx ry h;obtain⟨i,j,rfl,rfl,hc,q⟩:=h;obtain⟨t,rfl⟩:=rx;obtain⟨t',rfl⟩:=ry;exact rule i j t t' s _ _ hc ⟨.int (g i j),H,I.tok _,⟨_,rfl⟩,q⟩
theorem Lu{f:Value→Value→Sem Value}{g:Int→Int→Int}
  (rule:∀(i j:Int)(t u:Tok)(s:Shared)(Q:Value→Shared→Prop)(E:Value→Shared→Prop),Q (.int (g i j) s.toks) {s with toks:=s.toks+1}→wpAny (model X.prog X.w) X.A (f (.int i t) (.int j u)) Q E s):
  qT X f (EO fun i j=> .int (g i j)):=by
 intro pins s σ H x y v u Q I rx ry h;obtain⟨i,j,rfl,rfl,q⟩:=h;obtain⟨t,rfl⟩:=rx;obtain⟨t',rfl⟩:=ry;exact rule i j t t' s _ _ ⟨.int (g i j),H,I.tok _,⟨_,rfl⟩,q⟩
theorem ER{f:Value→Value→Sem Value}{g:Int→Int→Bool}
  (rule:∀(i j:Int)(t u:Tok)(s:Shared)(Q:Value→Shared→Prop)(E:Value→Shared→Prop),Q (.bool (g i j)) s→wpAny (model X.prog X.w) X.A (f (.int i t) (.int j u)) Q E s):
  qT X f (EO fun i j=> .bl (g i j)):=by
 intro pins s σ H x y v u Q I rx ry h;obtain⟨i,j,rfl,rfl,q⟩:=h;obtain⟨t,rfl⟩:=rx;obtain⟨t',rfl⟩:=ry;exact rule i j t t' s _ _ ⟨.bl (g i j),H,I,rfl,q⟩
def Ik(i j:Int):Prop:=0<j∧j<1073741824
def Il(i j:Int):Prop:=(-(2^64)<i∧i<2^64)∨(-(2^64)<j∧j<2^64)
theorem Il.ok{i j:Int}(h:Il i j):IntMulOk i j:=by
 rcases h with⟨h1,h2⟩|⟨h1,h2⟩
 ·exact .of_left (intBits_le_64 h1 h2)
 ·exact .of_right (intBits_le_64 h1 h2)
theorem bo:qT X (binaryOp .Add) (EO fun i j=> .int (i+j)):=Lu fun _ _ _ _ _ _ _ q=>add_int q
theorem cA:qT X (binaryOp .Sub) (EO fun i j=> .int (i-j)):=Lu fun _ _ _ _ _ _ _ q=>sub_int q
theorem mh:qT X (binaryOp .Mult) (rI Il fun i j=> .int (i*j)):=O7 fun _ _ _ _ _ _ _ hc q=>mul_int q hc.ok
theorem dj:qT X (binaryOp .FloorDiv) (rI Ik fun i j=> .int (i/j)):=O7 fun i j _ _ _ _ _ hc q=>by
 have h1:(0:Int)<j:=hc.1;have h2:j<1073741824:=hc.2;exact floordiv_int XQ (by rw[Int.fdiv_eq_ediv_of_nonneg i XQ];exact q) (.inl (PyProof.noPylong_small XQ))
theorem bG:qT X (binaryOp .Mod) (rI (fun _ j=>0<j) fun i j=> .int (i%j)):=O7 fun i j _ _ _ _ _ hc q=>by
 have h1:(0:Int)<j:=hc;exact mod_int' XQ (by rw[Int.fmod_eq_emod_of_nonneg i XQ];exact q)
theorem Uj{f:Value→Sem Value}{g:Int→Int}
  (rule:∀(i:Int)(t:Tok)(s:Shared)(Q:Value→Shared→Prop)(E:Value→Shared→Prop),Q (.int (g i) s.toks) {s with toks:=s.toks+1}→wpAny (model X.prog X.w) X.A (f (.int i t)) Q E s):
  O6 X f (rU fun i=> .int (g i)):=by
 intro pins s σ H x v Q I rx h;obtain⟨i,rfl,q⟩:=h;obtain⟨t,rfl⟩:=rx;exact rule i t s _ _ ⟨.int (g i),H,I.tok _,⟨_,rfl⟩,q⟩
theorem jk:O6 X (unaryOp .USub) (rU fun i=> .int (-i)):=Uj fun _ _ _ _ _ q=>neg_int q
end
def Lv:V→V→Bool
 | .cJ, .cJ=>true| .cJ, .int _=>true| .int _, .cJ=>true| .cJ, .bl _=>true| .bl _, .cJ=>true| .cJ, .str _=>true| .str _, .cJ=>true
 | .int _, .int _=>true| .bl _, .bl _=>true| .str _, .str _=>true| .AR _, .AR _=>true
 | .int _, .str _=>true| .str _, .int _=>true| .bl _, .str _=>true| .str _, .bl _=>true
 | _,_=>false
def Uk:R2:=fun x y H Q=>Lv x y=true∧Q (.bl (decide (x=y))) H
def Ul:R2:=fun x y H Q=>Lv x y=true∧Q (.bl (!decide (x=y))) H
theorem Yv{i j:Int}:decide (V.int i=V.int j)=(i==j):=by
 rw[Bool.eq_iff_iff];simp
theorem Cq{i j:Bool}:decide (V.bl i=V.bl j)=(i==j):=by
 rw[Bool.eq_iff_iff];simp
theorem Yq{i j:Str}:decide (V.str i=V.str j)=(i==j):=by
 rw[Bool.eq_iff_iff];simp
theorem Ym{i j:Array UInt8}:decide (V.AR i=V.AR j)=(i.toList==j.toList):=by
 rw[Bool.eq_iff_iff];cases i;cases j;simp
section
variable{X:Cx}{a b c:Expr}{ta tb tc:TE}{pos:Pos}
theorem bD{pins:List (Addr×Obj)}{σ:St}{H:Hp}{s:Shared}{Q:VK}{k k':Bool}(I:Inv X pins σ H s)(q:Q (.bl k) H)(e:k=k'):EP X pins σ Q (.bool k') s:=by
 subst e;exact⟨.bl k,H,I,rfl,q⟩
theorem iD:qT X (compareOp .Eq) Uk:=by
 intro pins s σ H x y v u Q I rx ry h;obtain⟨hs,q⟩:=h;cases x with
 |cJ=>
  cases rx;cases y with
  |cJ=>cases ry;exact PySem.EqNone.eq_none_none (bD I q XN)
  |bl j=>cases ry;exact PySem.EqNone.eq_none_bool (bD I q XN)
  |int j=>obtain⟨t',rfl⟩:=ry;exact PySem.EqNone.eq_none_int (bD I q XN)
  |str j=>obtain⟨t',rfl⟩:=ry;exact PySem.EqNone.eq_none_str (bD I q XN)
  | _=>exact absurd (show false=true from hs) Bool.false_ne_true
 |bl i=>
  cases rx;cases y with
  |cJ=>cases ry;exact PySem.EqNone.eq_bool_none (bD I q XN)
  |bl j=>cases ry;exact eq_bool (bD I q Cq)
  |str j=>obtain⟨t',rfl⟩:=ry;exact PySem.EqMixed.eq_bool_str (bD I q XN)
  | _=>exact absurd (show false=true from hs) Bool.false_ne_true
 |int i=>
  obtain⟨t,rfl⟩:=rx;cases y with
  |cJ=>cases ry;exact PySem.EqNone.eq_int_none (bD I q XN)
  |int j=>obtain⟨t',rfl⟩:=ry;exact eq_int (bD I q Yv)
  |str j=>obtain⟨t',rfl⟩:=ry;exact PySem.EqMixed.eq_int_str (bD I q XN)
  | _=>exact absurd (show false=true from hs) Bool.false_ne_true
 |str i=>
  obtain⟨t,rfl⟩:=rx;cases y with
  |cJ=>cases ry;exact PySem.EqNone.eq_str_none (bD I q XN)
  |bl j=>cases ry;exact PySem.EqMixed.eq_str_bool (bD I q XN)
  |int j=>obtain⟨t',rfl⟩:=ry;exact PySem.EqMixed.eq_str_int (bD I q XN)
  |str j=>obtain⟨t',rfl⟩:=ry;exact eq_str (bD I q Yq)
  | _=>exact absurd (show false=true from hs) Bool.false_ne_true
 |AR i=>
  obtain⟨t,rfl⟩:=rx;cases y with
  |AR j=>obtain⟨t',rfl⟩:=ry;exact PySem.W.eq_bytes (bD I q Ym)
  | _=>exact absurd (show false=true from hs) Bool.false_ne_true
 | _=>cases y<;>exact absurd (show false=true from hs) Bool.false_ne_true
theorem GB:qT X (compareOp .NotEq) Ul:=by
 intro pins s σ H x y v u Q I rx ry h;obtain⟨hs,q⟩:=h;cases x with
 |cJ=>
  cases rx;cases y with
  |cJ=>cases ry;exact PySem.EqNone.ne_none_none (bD I q XN)
  |bl j=>cases ry;exact PySem.EqNone.ne_none_bool (bD I q XN)
  |int j=>obtain⟨t',rfl⟩:=ry;exact PySem.EqNone.ne_none_int (bD I q XN)
  |str j=>obtain⟨t',rfl⟩:=ry;exact PySem.EqNone.ne_none_str (bD I q XN)
  | _=>exact absurd (show false=true from hs) Bool.false_ne_true
 |bl i=>
  cases rx;cases y with
  |cJ=>cases ry;exact PySem.EqNone.ne_bool_none (bD I q XN)
  |bl j=>cases ry;exact ne_bool (bD I q (congrArg not Cq))
  |str j=>obtain⟨t',rfl⟩:=ry;exact PySem.EqMixed.ne_bool_str (bD I q XN)
  | _=>exact absurd (show false=true from hs) Bool.false_ne_true
 |int i=>
  obtain⟨t,rfl⟩:=rx;cases y with
  |cJ=>cases ry;exact PySem.EqNone.ne_int_none (bD I q XN)
  |int j=>obtain⟨t',rfl⟩:=ry;exact ne_int (bD I q (congrArg not Yv))
  |str j=>obtain⟨t',rfl⟩:=ry;exact PySem.EqMixed.ne_int_str (bD I q XN)
  | _=>exact absurd (show false=true from hs) Bool.false_ne_true
 |str i=>
  obtain⟨t,rfl⟩:=rx;cases y with
  |cJ=>cases ry;exact PySem.EqNone.ne_str_none (bD I q XN)
  |bl j=>cases ry;exact PySem.EqMixed.ne_str_bool (bD I q XN)
  |int j=>obtain⟨t',rfl⟩:=ry;exact PySem.EqMixed.ne_str_int (bD I q XN)
  |str j=>obtain⟨t',rfl⟩:=ry;exact ne_str (bD I q (congrArg not Yq))
  | _=>exact absurd (show false=true from hs) Bool.false_ne_true
 |AR i=>
  obtain⟨t,rfl⟩:=rx;cases y with
  |AR j=>obtain⟨t',rfl⟩:=ry;exact PySem.W.ne_bytes (bD I q (congrArg not Ym))
  | _=>exact absurd (show false=true from hs) Bool.false_ne_true
 | _=>cases y<;>exact absurd (show false=true from hs) Bool.false_ne_true
theorem m_:qT X (compareOp .Lt) (EO fun i j=> .bl (decide (i<j))):=ER fun _ _ _ _ _ _ _ q=>lt_int q
theorem GC:qT X (compareOp .LtE) (EO fun i j=> .bl (decide (i≤j))):=ER fun _ _ _ _ _ _ _ q=>le_int q
theorem rn:qT X (compareOp .Gt) (EO fun i j=> .bl (decide (j<i))):=ER fun _ _ _ _ _ _ _ q=>gt_int q
theorem Cr:qT X (compareOp .GtE) (EO fun i j=> .bl (decide (j≤i))):=ER fun _ _ _ _ _ _ _ q=>ge_int q
theorem aW(b:Expr){op:CmpOp}(h:op≠ .In:=by decide)(h2:op≠ .NotIn:=by decide):behindInMarks op b=false:=by
 have e1:(op==CmpOp.In)=false:=by cases op<;>first|rfl|exact absurd rfl h
 have e2:(op==CmpOp.NotIn)=false:=by cases op<;>first|rfl|exact absurd rfl h2
 cases b<;>simp[behindInMarks,e1,e2]
theorem fj{op:CmpOp}{r:R2}(ho:qT X (compareOp op) r)(ha:PE X a ta)(hb:PE X b tb)(hm:behindInMarks op b=false):PE X (.Compare a [op] [b] pos) (NB r ta tb):=by
 intro pins s σ H Q I h;exact wpAny_Compare1 (Ij ha hb I h fun v u s2 x y H2 I2 rx ry q=>ho pins s2 σ H2 x y v u Q I2 rx ry q) hm
def Lw(t:TE):TT:=fun σ H Q=>t σ H fun x H'=>∃k,x= .bl k∧Q k H'
theorem a7{op:CmpOp}{r:R2}(ho:qT X (compareOp op) r)(ha:PE X a ta)(hb:PE X b tb)(hm:behindInMarks op b=false):PT X (.Compare a [op] [b] pos) (Lw (NB r ta tb)):=by
 intro pins s σ H Q I h;refine wpAny_isTrue_Compare1 (cy (ha pins s σ H _ I h) fun v s1 ⟨x,H1,I1,r1,q1⟩=>cy (hb pins s1 σ H1 _ I1 q1) fun u s2 ⟨y,H2,I2,r2,q2⟩=>
  cy (ho pins s2 σ H2 x y v u _ I2 r1 r2 q2) fun c s3 ⟨z,H3,I3,r3,k,e,q3⟩=>?_) hm
 subst e;cases r3;exact wpAny_truthy_bool ⟨H3,I3,q3⟩
theorem pd:(sizeLine:Nat)<2^63:=by rw[sizeLine_eq];decide
theorem mi:qT X (binaryOp .Add) (fun x y H Q=>∃i j,x= .str i∧y= .str j∧i.length+j.length≤sizeLine∧Q (.str (i++j)) H):=by
 intro pins s σ H x y v u Q I rx ry h;obtain⟨i,j,rfl,rfl,hz,q⟩:=h;obtain⟨t,rfl⟩:=rx;obtain⟨t',rfl⟩:=ry;exact add_str (fun t' tk=>⟨.str (i++j),H,I.tok _,⟨_,rfl⟩,q⟩) hz
theorem vals1{x:V}{us:List Value}(r:Vals [x] us):∃u,us=[u]∧RelV x u:=by
 cases r with
 |cons r1 r2=>cases r2;exact⟨_,rfl,r1⟩
theorem vals2{x y:V}{us:List Value}(r:Vals [x,y] us):∃u w',us=[u,w']∧RelV x u∧RelV y w':=by
 cases r with
 |cons r1 r2=>
  cases r2 with
  |cons r3 r4=>cases r4;exact⟨_,_,rfl,r1,r3⟩
theorem AZ(hc:X.calm=true):gL X (.builtin "max") (fun xs H Q=>∃i j,xs=[.int i, .int j]∧Q (.int (if j>i then j else i)) H):=by
 intro pins s σ H xs us Q I r h;obtain⟨i,j,rfl,q⟩:=h;obtain⟨u,w',rfl,⟨t,rfl⟩,⟨t',rfl⟩⟩:=vals2 r;refine max_two_ints (I.ok.hd hc) fun h' tk k=>⟨_,H,I.kept k,?_,q⟩
 by_cases hj:j>i
 ·rw[XH hj,XH hj];exact⟨_,rfl⟩
 ·rw[XE hj,XE hj];exact⟨_,rfl⟩
theorem pe(hc:X.calm=true):gL X (.builtin "min") (fun xs H Q=>∃i j,xs=[.int i, .int j]∧Q (.int (if j<i then j else i)) H):=by
 intro pins s σ H xs us Q I r h;obtain⟨i,j,rfl,q⟩:=h;obtain⟨u,w',rfl,⟨t,rfl⟩,⟨t',rfl⟩⟩:=vals2 r;refine min_two_ints (I.ok.hd hc) fun h' tk k=>⟨_,H,I.kept k,?_,q⟩
 by_cases hj:j<i
 ·rw[XH hj,XH hj];exact⟨_,rfl⟩
 ·rw[XE hj,XE hj];exact⟨_,rfl⟩
theorem ph:gL X (.type "int") (fun xs H Q=>(∃i,xs=[.int i]∧Q (.int i) H)∨∃k,xs=[.bl k]∧Q (.int (if k then 1 else 0)) H):=by
 intro pins s σ H xs us Q I r h;rcases h with⟨i,rfl,q⟩|⟨k,rfl,q⟩
 ·obtain⟨u,rfl,t,rfl⟩:=vals1 r;exact call_int_int ⟨.int i,H,I,⟨_,rfl⟩,q⟩
 ·obtain⟨u,rfl,r1⟩:=vals1 r;cases r1;exact call_int_bool ⟨.int (if k then 1 else 0),H,I.tok _,⟨_,rfl⟩,q⟩
end
structure Y7(h:Heap)(x dx C:Addr)(mA:Str→Option Value):Prop where
 obj:h.get? x=some (PySem.W.instObj C dx)
 ns:h.Ns1 dx mA
 ne:dx≠x
theorem A0{h:Heap}{dx:Addr}{mA:Str→Option Value}(n:h.Ns1 dx mA):∃od,h.get? dx=some od∧∀name,PySem.W.lookIn name od=some (mA name):=by
 obtain⟨o,es,ep,ho,hd,hk,_,hm⟩:=n;refine⟨o,ho,fun name=>?_⟩;have e:=hm name;unfold nsFind findBy at e;rw[←Array.find?_toList]at e;unfold PySem.W.lookIn;rw[hd];dsimp only;split
 ·rename_i y q
  rw[q]at e;exact congrArg some e
 ·rename_i q
  rw[q]at e;have a:es.toList.any (·.refKey)=false:=by
   rw[List.any_eq_false];intro y hy;obtain⟨z,t,nc⟩:=hk y (Array.mem_toList_iff.mp hy);simp[DictEntry.refKey,nc]
  have a':¬es.toList.any (·.refKey)=true:=by rw[a];exact Bool.false_ne_true
  rw[XE a'];exact congrArg some e
theorem Y7.look{h:Heap}{x dx C:Addr}{mA:Str→Option Value}(I:Y7 h x dx C mA):∃od,PySem.W.InstAt h x (PySem.W.instObj C dx) C (some od)∧∀name,PySem.W.lookIn name od=some (mA name):=
 let ⟨od,ho,hl⟩:=A0 I.ns
 ⟨od,⟨I.obj,rfl,rfl,ho⟩,hl⟩
section
variable{prog:Program}{w:World}{A:Around}{E:Value→Shared→Prop}{s:Shared}{K:PySem.W.Frag}{x dx C f:Addr}{mA:Str→Option Value}{name:Str}{v:Value}
theorem get_map{expr:Bool}{Q:Value→Shared→Prop}(X:K.In s.heap)(I:Y7 s.heap x dx C mA)(hg:PySem.W.plainGet K C name=true)(hh:PySem.W.hasDictIn K C=true)
  (ha:PySem.W.findIn K (.ref C) name=some none) (hv:mA name=some v) (Lx:PySem.W.handedIn v=true) (h:Q v {s with toks:=s.toks+1}):
  wpAny (model prog w) A (getAttr (.ref x) name expr) Q E s:=by
 obtain⟨od,J,hl⟩:=I.look;exact PySem.W.get_value X J (PySem.W.plainGet_of hg).1 (PySem.W.findObj_own hh ha rfl (by rw[hl,hv])) Lx h
theorem Cs{pl:Sem Bool}{Q:Value×List Value→Shared→Prop}(X:K.In s.heap)(I:Y7 s.heap x dx C mA)(hg:PySem.W.plainGet K C name=true)
  (hf:PySem.W.findIn K (.ref C) name=some (some (.ref f))) (ht:PySem.W.isFn K (.ref f)=true) (hv:mA name=none) (h:Q (.ref f,[.ref x]) s):
  wpAny (model prog w) A (getMethod (.ref x) name pl) Q E s:=by
 obtain⟨od,J,hl⟩:=I.look;exact PySem.W.method_fn X J (PySem.W.plainGet_of hg).1 (PySem.W.plainGet_of hg).2 hf (beq_iff_eq.mp ht) (by show(PySem.W.lookIn name od).map (·.isSome)=some false;rw[hl,hv];rfl) h
theorem ES{ns:List Str}{Q:Unit→Shared→Prop}(X:K.In s.heap)(I:Y7 s.heap x dx C mA)
  (hs:PySem.W.findIn K (.ref C) "__setattr__"=some (some (.builtin "object.__setattr__"))) (hp:PySem.W.plainOver K C=true) (ht:PySem.W.takerIn K C name=some none) (hh:PySem.W.hasDictIn K C=true)
  (hw:PySem.Within mA ns) (hsz:ns.length≤sizeLine)
  (h:∀h',Y7 h' x dx C (fun y=>if y=name then some v else mA y)→Heap.SameBut dx s.heap h'→Q () {s with heap:=h',toks:=s.toks+2}):
  wpAny (model prog w) A (setAttr (.ref x) name v) Q E s:=by
 obtain⟨od,J,hl⟩:=I.look;refine PySem.W.set_plain X J hs (PySem.W.osa_open (s:={s with toks:=s.toks+1}) (r:=none) X J hp ht fun b=>?_);obtain⟨cd,hc,t9⟩:=PySem.W.any_some hh;have hx:s.heap.get? x=some ⟨.ref C,some dx, .plain,#[]⟩:=I.obj;refine wpAny_bind (wpAny_pure (wpAny_bind (wpAny_bind (wpAny_loadPart hx (wpAny_bind (PySem.W.Looks.here (s:={s with toks:=s.toks+1}) (PySem.W.looks_clsIn X hc) ?_))))));rw[t9];refine wpAny_pure (a:=some dx) (wpAny_bind (wpAny_pure (wpAny_bind ?_)));refine wpAny_nsSet1 (s:={s with toks:=s.toks+1}) I.ns fun h' ub Ex=>?_
 obtain⟨oD,WM,WN,Um,Uo,Up⟩:=ub.count (PySem.Within.cons name v hw);refine wpAny_bind (wpAny_lookBehind Um (by rw[Uo];exact pastItsLine_dict (Nat.le_trans Up (by rw[List.length_cons];omega))) ?_);exact wpAny_pure (h _ ⟨(Ex.2 _ (Ne.symm I.ne)).trans I.obj,ub,I.ne⟩ Ex)
theorem Ct{R:Result→Shared→Prop}{vs:List Value}{kw:List (Str×Value)}(X:K.In s.heap)(hm:PySem.W.makesIn K C=true)
  (hi:PySem.W.findIn K (.ref C) "__init__"=some (some (.ref f))) (hf:PySem.W.typeIn K (.ref f)=some (.type "function"))
  (h:codeAny (model prog w) (A.under (.builtin "type.__call__" ⟨.ref C::vs,kw⟩)) (.call (.ref f) ⟨.ref (s.heap.objs.size+1)::vs,kw⟩) (PySem.W.InitBack (s.heap.objs.size+1) R)
   {s with heap:=(s.heap.push PySem.W.emptyDict).push (PySem.W.instObj C s.heap.objs.size)}):
  codeAny (model prog w) A (.call (.ref C) ⟨vs,kw⟩) R s:=by
 obtain⟨hh,g,d,t,os⟩:=s;exact PySem.W.make_core (PySem.W.makes_of X hm) (PySem.W.looks_findIn X hi) (fun self=>PySem.W.bind_fn X self hf) (.inl rfl) h
end
def bb(f:Str)(v:V):List (Str×V)→List (Str×V)
 |[]=>[(f,v)]
 |(g,x)::r=>if g=f then(g,v)::r else(g,x)::bb f v r
theorem qh(f g:Str)(v:V):∀fs:List (Str×V),(bb f v fs).lookup g=if g=f then some v else fs.lookup g
 |[]=>by
  show List.lookup g [(f,v)]=_;by_cases h:g=f
  ·have hb:(g==f)=true:=beq_iff_eq.mpr h;simp only[List.lookup,hb,XH h]
  ·have hb:(g==f)=false:=beq_eq_false_iff_ne.mpr h;simp only[List.lookup,hb,XE h]
 |(k,x)::r=>by
  have ih:=qh f g v r;rw[show bb f v ((k,x)::r)=(if k=f then(k,v)::r else(k,x)::bb f v r)from rfl];by_cases hk:k=f
  ·rw[XH hk];by_cases h:g=k
   ·have hb:(g==k)=true:=beq_iff_eq.mpr h;simp only[List.lookup,hb,XH (h.trans hk)]
   ·have hb:(g==k)=false:=beq_eq_false_iff_ne.mpr h;simp only[List.lookup,hb,XE (fun e:g=f=>h (e.trans hk.symm))]
  ·rw[XE hk];by_cases h:g=k
   ·have hb:(g==k)=true:=beq_iff_eq.mpr h;simp only[List.lookup,hb,XE (fun e:g=f=>hk (h.symm.trans e))]
   ·have hb:(g==k)=false:=beq_eq_false_iff_ne.mpr h;simp only[List.lookup,hb];exact ih
theorem pj(f:Str)(v:V):∀fs:List (Str×V),f∈(bb f v fs).map (·.1)∧∀g,g∈fs.map (·.1)→g∈(bb f v fs).map (·.1)
 |[]=>⟨by simp[bb],fun g h=>by simp at h⟩
 |(k,x)::r=>by
  obtain⟨i1,i2⟩:=pj f v r;rw[show bb f v ((k,x)::r)=(if k=f then(k,v)::r else(k,x)::bb f v r)from rfl];by_cases hk:k=f
  ·rw[XH hk];subst hk;exact⟨XX,fun g h=>by simpa using h⟩
  ·rw[XE hk];refine⟨?_,fun g h=>?_⟩
   ·rw[List.map_cons];exact List.mem_cons_of_mem _ i1
   ·rw[List.map_cons]at h⊢;rcases List.mem_cons.mp h with e|e
    ·exact List.mem_cons.mpr (.inl e)
    ·exact List.mem_cons_of_mem _ (i2 g e)
theorem aU(f:Str)(v:V):∀fs:List (Str×V),(bb f v fs).length≤fs.length+1
 |[]=>by simp[bb]
 |(k,x)::r=>by
  have ih:=aU f v r;rw[show bb f v ((k,x)::r)=(if k=f then(k,v)::r else(k,x)::bb f v r)from rfl];by_cases hk:k=f
  ·rw[XH hk,List.length_cons,List.length_cons];omega
  ·rw[XE hk,List.length_cons,List.length_cons];omega
theorem jQ.some_of{v:V}{o:Option Value}(r:jQ (some v) o):∃u,o=some u∧RelV v u:=by
 cases o with
 |none=>exact(show False from r).elim
 |some u=>exact⟨u,rfl,r⟩
theorem jQ.none_of{o:Option Value}(r:jQ none o):o=none:=by
 cases o with
 |none=>rfl
 |some u=>exact(show False from r).elim
theorem A3{v:V}{u:Value}(r:RelV v u):PySem.W.handedIn u=true:=by
 cases v with
 |cJ=>cases(show u=Value.none from r);rfl
 |bl b=>cases(show u=Value.bool b from r);rfl
 |int i=>obtain⟨t,e⟩:=(show ∃t,u=Value.int i t from r);cases e;rfl
 |str x=>obtain⟨t,e⟩:=(show ∃t,u=Value.str x t from r);cases e;rfl
 |AR b=>obtain⟨t,e⟩:=(show ∃t,u=Value.bytes b t from r);cases e;rfl
 |Gr b=>obtain⟨t,e⟩:=(show ∃t,u=Value.float b t from r);cases e;rfl
 |ref a=>cases(show u=Value.ref a from r);rfl
 |ty n=>cases(show u=Value.type n from r);rfl
section
variable{P:Program}{w:World}{H H':Hp}{h h':Heap}{a C dx:Addr}{fs Ub:List (Str×V)}
theorem qU(bR:kE P w H h)(e:H a=some (.ins C dx fs)):∃mA,Y7 h a dx C mA∧(∀f,jQ (fs.lookup f) (mA f))∧PySem.Within mA (fs.map (·.1))∧fs.length≤1000∧H dx=some (.own a):=by
 obtain⟨d,z,ne,ob,mA,n,r,q⟩:=(show cK P w H h a (.ins C dx fs)from bR a _ e)
 exact⟨mA,⟨ob,n,ne⟩,r,q,z,d⟩
end
structure uN(K:PySem.W.Frag)(C:Addr):Prop where
 pg:PySem.W.plainGet K C Str.empty=true
 hd:PySem.W.hasDictIn K C=true
 po:PySem.W.plainOver K C=true
 sa:PySem.W.findIn K (.ref C) "__setattr__"=some (some (.builtin "object.__setattr__"))
theorem uN.get{K:PySem.W.Frag}{C:Addr}(c:uN K C)(f:Str):PySem.W.plainGet K C f=true:=c.pg
def bS(K:PySem.W.Frag)(C:Addr)(f:Str):Prop:=PySem.W.findIn K (.ref C) f=some none
theorem bS.Ly{K:PySem.W.Frag}{C:Addr}{f:Str}(n:bS K C f):PySem.W.takerIn K C f=some none:=by
 unfold PySem.W.takerIn;rw[show PySem.W.findIn K (.ref C) f=some none from n];rfl
structure Cu(K:PySem.W.Frag)(C:Addr)(f:Str)(v:V)(u:Value):Prop where
 at_:PySem.W.findIn K (.ref C) f=some (some u)
 rel:RelV v u
 get:PySem.W.specialIn K u "__get__"=some none
 cp:PySem.W.copiedNames.contains f=false
structure Meth(K:PySem.W.Frag)(C:Addr)(m:Str)(f:Addr):Prop where
 at_:PySem.W.findIn K (.ref C) m=some (some (.ref f))
 fn:PySem.W.isFn K (.ref f)=true
 kp:PySem.W.keepIn K (.ref f)=true
section
variable{X:Cx}{pins:List (Addr×Obj)}{σ:St}{H:Hp}{s:Shared}{a C dx:Addr}{fs:List (Str×V)}{f:Str}{v:V}{A:Around}{E:Value→Shared→Prop}
theorem Zc{b:Bool}{Q:Value→Shared→Prop}(I:Inv X pins σ H s)(e:H a=some (.ins C dx fs))(c:uN X.K C)(n:bS X.K C f)(l:fs.lookup f=some v)
  (h:∀u s',Inv X pins σ H s'→RelV v u→Q u s'):wpAny (model X.prog X.w) A (getAttr (.ref a) f b) Q E s:=by
 obtain⟨mA,O,r,_,_,_⟩:=qU I.bR e;obtain⟨u,hu,ru⟩:=jQ.some_of (v:=v) (o:=mA f) (by rw[←l];exact r f);exact get_map I.o7 O (c.get f) c.hd n hu (A3 ru) (h u _ (I.tok _) ru)
theorem mj{m:Str}{g:Addr}{pl:Sem Bool}{Q:Value×List Value→Shared→Prop}(I:Inv X pins σ H s)(e:H a=some (.ins C dx fs))(c:uN X.K C)(k:Meth X.K C m g)(l:fs.lookup m=none)
  (h:Q (.ref g,[.ref a]) s):wpAny (model X.prog X.w) A (getMethod (.ref a) m pl) Q E s:=by
 obtain⟨mA,O,r,_,_,_⟩:=qU I.bR e;have hn:mA m=none:=jQ.none_of (by rw[←l];exact r m);exact Cs I.o7 O (c.get m) k.at_ k.fn hn h
theorem ZZ{y:V}{u:Value}{Q:Unit→Shared→Prop}(I:Inv X pins σ H s)(e:H a=some (.ins C dx fs))(c:uN X.K C)(n:bS X.K C f)(hl:fs.length<1000)(ry:RelV y u)
  (h:∀s',Inv X pins σ (upd H a (.ins C dx (bb f y fs))) s'→Q () s'):wpAny (model X.prog X.w) A (setAttr (.ref a) f u) Q E s:=by
 obtain⟨mA,O,r,wi,_,ho⟩:=qU I.bR e;have hz:(fs.map (·.1)).length≤sizeLine:=by rw[List.length_map,sizeLine_eq];omega
 refine ES I.o7 O c.sa c.po n.Ly c.hd wi hz fun h' O' sb=>h _ ?_
 have hd:∃o,h'.get? dx=some o:=let ⟨o,_,_,e',_⟩:=O'.ns;⟨o,e'⟩
 refine I.write (x:=a) (e:=dx) (by rw[e];exact True.intro) (.inr ho) (fun b q hb z=>(sb.2 b hb).trans z) hd ?_;refine⟨by rw[aj O.ne];exact ho,?_,O.ne,O'.obj,_,O'.ns,fun g=>?_,fun g hg=>?_⟩
 ·have:=aU f y fs;omega
 ·show jQ ((bb f y fs).lookup g) (if g=f then some u else mA g);rw[qh];by_cases q:g=f
  ·rw[XH q,XH q];exact ry
  ·rw[XE q,XE q];exact r g
 ·by_cases q:g=f
  ·rw[q];exact(pj f y fs).1
  ·refine(pj f y fs).2 g (wi g fun z=>hg ?_);show(if g=f then some u else mA g)=none;rw[XE q];exact z
theorem Inv.made(I:Inv X pins σ H s):Inv X pins σ (upd (upd H s.heap.objs.size (.own (s.heap.objs.size+1))) (s.heap.objs.size+1) (.ins C s.heap.objs.size []))
  {s with heap:=(s.heap.push PySem.W.emptyDict).push (PySem.W.instObj C s.heap.objs.size)}:=by
 have e1:(s.heap.push PySem.W.emptyDict).get? s.heap.objs.size=some PySem.W.emptyDict:=Heap.get?_push_size s.heap rfl;have e2:((s.heap.push PySem.W.emptyDict).push (PySem.W.instObj C s.heap.objs.size)).get? (s.heap.objs.size+1)=some (PySem.W.instObj C s.heap.objs.size):=by
  have:=Heap.get?_push_size (s.heap.push PySem.W.emptyDict) (o:=PySem.W.instObj C s.heap.objs.size) rfl;rwa[Heap.size_push]at this
 have e3:(s.heap.push PySem.W.emptyDict).Ns s.heap.objs.size (fun _=>none):=⟨PySem.W.emptyDict,#[],_,e1,rfl,(fun e he=>absurd he XN),fun _=>rfl⟩
 have I1:=I.laid (a:=s.heap.objs.size) (o:= .own (s.heap.objs.size+1)) (h':=s.heap.push PySem.W.emptyDict) (t':=s.toks) (fun b u q=>XD q) (Nat.le_refl _) ⟨_,e1⟩;refine I1.laid (a:=s.heap.objs.size+1) (o:= .ins C s.heap.objs.size []) (t':=s.toks) (fun b u q=>XD q) (Nat.le_of_eq (Heap.size_push _ _)) ?_;have ne:s.heap.objs.size≠s.heap.objs.size+1:=Nat.ne_of_lt (Nat.lt_succ_self _);refine⟨by rw[aj ne,ae],Nat.zero_le _,ne,e2,fun _=>none,(Heap.Ns1.of_empty e3).at fun o q=>XD q,fun _=>True.intro,fun y hy=>absurd rfl hy⟩
theorem ET{prog:Program}{w:World}{env:Env}{e:Expr}{f:Str}{pos:Pos}{s:Shared}{Q:Value→Shared→Prop}(hb:attributeBase e f env (eval e env)=eval e env)
  (h:wpAny (model prog w) A (eval e env) (fun o bX=>wpAny (model prog w) A (getAttr o f true) Q E bX) E s):wpAny (model prog w) A (eval (.Attribute e f pos) env) Q E s:=
 Attribute_any_ h (by rw[arm_eval_Attribute,hb])
end
inductive GD(K:PySem.W.Frag)(f:Str)(x:V)(H1:Hp)(Q:VK):Prop
 |mk (a:Addr) (C:Addr) (dx:Addr) (fs:List (Str×V)) (v:V) (_:x= .ref a) (_:H1 a=some (.ins C dx fs)) (_:uN K C) (_:bS K C f) (_:fs.lookup f=some v) (_:Q v H1):GD K f x H1 Q
def Lz(K:PySem.W.Frag)(ta:TE)(f:Str):TE:=fun σ H Q=>ta σ H fun x H1=>GD K f x H1 Q
def LA(K:PySem.W.Frag)(ta tv:TE)(f:Str):TS:=fun D σ H=>tv σ H fun y H1=>ta σ H1 fun x H2=>∃a C dx fs,x= .ref a∧H2 a=some (.ins C dx fs)∧uN K C∧bS K C f∧fs.length<1000∧
 D.nx σ (upd H2 a (.ins C dx (bb f y fs)))
section
variable{X:Cx}{o e value:Expr}{f:Str}{pos pos' O8:Pos}{ta tv:TE}
theorem Im(he:PE X e ta)(hb:attributeBase e f X.env (eval e X.env)=eval e X.env):PE X (.Attribute e f pos) (Lz X.K ta f):=by
 intro pins s σ H Q I h;refine ET hb (cy (he pins s σ H _ I h) fun u s1 ⟨x,H1,I1,rx,a,C,dx,fs,v,ex,ea,c,n,l,q⟩=>?_);subst ex;obtain rfl:u=Value.ref a:=rx;exact Zc I1 ea c n l fun u' s2 I2 ru=>⟨v,H1,I2,ru,q⟩
theorem Io(ha:PE X o ta)(hv:PE X value tv)(hs:swapsWith value (some (.Attribute o f pos')) pos.line X.env=pure false):PS X (.Assign [.Attribute o f pos'] value pos) (LA X.K ta tv f):=by
 intro pins s σ H D I h;refine plainObj_wpAny_Assign_Attribute (cy (hv pins s σ H _ I h) fun u s1 ⟨y,H1,I1,ry,q⟩=>cy (ha pins s1 σ H1 _ I1 q) fun ov s2 ⟨x,H2,I2,rx,a,C,dx,fs,ex,ea,c,n,l,q2⟩=>?_) hs;subst ex;obtain rfl:ov=Value.ref a:=rx;exact ZZ I2 ea c n l ry fun s3 I3=>⟨σ,_,I3,q2⟩
theorem GF{pl:Sem Bool}{m:Str}{apos:Pos}{args:List Expr}{pins:List (Addr×Obj)}{s:Shared}{σ:St}{H:Hp}{Q:Value→Shared→Prop}{te:TE}(he:PE X e te)(I:Inv X pins σ H s)
  (h:te σ H fun x H1=>∃a C dx fs g,x= .ref a∧H1 a=some (.ins C dx fs)∧uN X.K C∧Meth X.K C m g∧fs.lookup m=none∧
   ∀s1,Inv X pins σ H1 s1→wpAny (model X.prog X.w) X.A (callWith pos (.ref g) [.ref a] (backTo pos (starEach args X.env)) (backToKw pos (keywordEach [] X.env))) Q X.xe s1)
  (ht:eval (.Call (.Attribute e m apos) args [] pos) X.env=(do
   let ov←eval e X.env
   standAt apos.atName
   let (f,first)←holding [ov] (getMethod ov m pl)
   callWith pos f first (backTo pos (starEach args X.env)) (backToKw pos (keywordEach [] X.env)))):
  wpAny (model X.prog X.w) X.A (eval (.Call (.Attribute e m apos) args [] pos) X.env) Q X.xe s:=by
 refine PySem.W.methodCall_KW (pl:=pl) (cy (he pins s σ H _ I h) fun u s1 ⟨x,H1,I1,rx,a,C,dx,fs,g,ex,ea,c,k,l,q⟩=>?_) ht;subst ex;obtain rfl:u=Value.ref a:=rx;exact mj I1 ea c k l (q s1 I1)
end
section
variable{X:Cx}{pins:List (Addr×Obj)}{σ:St}{H:Hp}{s:Shared}{A:Around}{E:Value→Shared→Prop}{Q:Value→Shared→Prop}{c:Value}{b:Bool}
inductive px(K:PySem.W.Frag)(H:Hp):V→Value→Prop where
 |cJ:px K H .cJ (.type "NoneType")
 |bl (x:Bool):px K H (.bl x) (.type "bool")
 |int (i:Int):px K H (.int i) (.type "int")
 |str (x:Str):px K H (.str x) (.type "str")
 |Gr (x:UInt64):px K H (.Gr x) (.type "float")
 |lst {a:Addr} {xs:List V} (e:H a=some (.lst xs)):px K H (.ref a) (.type "list")
 |qS {a:Addr} {o:Obj} {xs:List V} (e:H a=some (.qS o (.lst xs))):px K H (.ref a) (.type "list")
 |tup {a:Addr} {xs:List V} (e:H a=some (.tup xs)):px K H (.ref a) (.type "tuple")
 |dK {a:Addr} {kvs:List (Key×V)} (e:H a=some (.dK kvs)):px K H (.ref a) (.type "dict")
 |dT {a:Addr} {kvs:List (List Key×V)} (e:H a=some (.dT kvs)):px K H (.ref a) (.type "dict")
 |ins {a C dx:Addr} {fs:List (Str×V)} (e:H a=some (.ins C dx fs)) (cl:uN K C) (ha:PySem.W.findIn K (.ref C) "__class__"=some (some (.builtin "object.__class__")))
   (hn:PySem.W.specialIn K (.builtin "object.__class__") "__get__"=some (some (.builtin "getset_descriptor.__get__"))) (RJ:PySem.W.takesIn K (.builtin "object.__class__")=some true)
   (hm:PySem.W.mroIn K C (.type "object")=some true):px K H (.ref a) (.ref C)
theorem A4{x:V}{u t:Value}(I:Inv X pins σ H s)(rx:RelV x u)(ty:px X.K H x t)(e:PySem.W.kitOne X.K t c=some b)(h:∀tk,Q (.bool b) {s with toks:=tk}):
  wpAny (model X.prog X.w) A (call (.builtin "isinstance") [u,c]) Q E s:=by
 cases ty with
 |cJ=>cases(show u=Value.none from rx);exact PySem.W.kia_one PySem.W.kitx_none I.o7 True.intro e (fun z=>nomatch z) h
 |bl y=>cases(show u=Value.bool y from rx);exact PySem.W.kia_one PySem.W.kitx_bool I.o7 True.intro e (fun z=>nomatch z) h
 |int i=>obtain⟨t,q⟩:=(show ∃t,u=Value.int i t from rx);cases q;exact PySem.W.kia_one PySem.W.kitx_int I.o7 True.intro e (fun z=>nomatch z) h
 |str y=>obtain⟨t,q⟩:=(show ∃t,u=Value.str y t from rx);cases q;exact PySem.W.kia_one PySem.W.kitx_str I.o7 True.intro e (fun z=>nomatch z) h
 |Gr y=>obtain⟨t,q⟩:=(show ∃t,u=Value.float y t from rx);cases q;exact PySem.W.kia_one PySem.W.kitx_float I.o7 True.intro e (fun z=>nomatch z) h
 |@lst a xs ea=>
  cases(show u=Value.ref a from rx);obtain⟨_,_,n,_,h1⟩:=(show cK X.prog X.w H s.heap a (.lst xs)from I.bR a _ ea)
  exact PySem.W.kia_one PySem.W.kitx_list I.o7 ⟨_,h1,rfl⟩ e (fun z=>nomatch z) h
 |@qS a ob xs ea=>
  cases(show u=Value.ref a from rx);obtain⟨_,_,_,n,_,h1⟩:=(show cK X.prog X.w H s.heap a (.qS ob (.lst xs))from I.bR a _ ea)
  exact PySem.W.kia_one PySem.W.kitx_list I.o7 ⟨_,h1,rfl⟩ e (fun z=>nomatch z) h
 |@tup a xs ea=>
  cases(show u=Value.ref a from rx);obtain⟨_,_,_,p⟩:=(show cK X.prog X.w H s.heap a (.tup xs)from I.bR a _ ea)
  obtain⟨o,h1,h2,_⟩:=p;exact PySem.W.kia_one PySem.W.kitx_tuple I.o7 ⟨o,h1,h2⟩ e (fun z=>nomatch z) h
 |@dK a kvs ea=>
  cases(show u=Value.ref a from rx);obtain⟨_,_,vs,_,p⟩:=(show cK X.prog X.w H s.heap a (.dK kvs)from I.bR a _ ea)
  obtain⟨o,es,ep,h1,h2,_⟩:=p;exact PySem.W.kia_one PySem.W.kitx_dict I.o7 ⟨o,h1,h2.1⟩ e (fun z=>nomatch z) h
 |@dT a kvs ea=>
  cases(show u=Value.ref a from rx);obtain⟨_,_,xs,_,o,es,ep,h1,h2,_⟩:=(show cK X.prog X.w H s.heap a (.dT kvs)from I.bR a _ ea)
  exact PySem.W.kia_one PySem.W.kitx_dict I.o7 ⟨o,h1,h2.1⟩ e (fun z=>nomatch z) h
 |@ins a C dx fs ea cl ha hn RJ hm=>
  cases(show u=Value.ref a from rx);obtain⟨mA,O,_⟩:=qU I.bR ea;obtain⟨od,J,_⟩:=O.look;exact PySem.W.kia_one (PySem.W.kitx_own (cl.get _) cl.hd ha hn RJ hm) I.o7 J e (fun z=>nomatch z) h
end
structure eC(cm:Bool)(k:Nat)(A:Around):Prop where
 hd:cm=true→A.handled=none
 dp:A.depth+3*k+5<recursionLimit
 un:A.units+16*k+200<cLine
theorem eC.mono{cm:Bool}{j k:Nat}{A:Around}(r:eC cm k A)(h:j≤k):eC cm j A:=⟨r.hd,by have:=r.dp;omega,by have:=r.un;omega⟩
theorem eC.deeper{cm:Bool}{k:Nat}{A:Around}(r:eC cm (k+1) A)(env:Env):eC cm k (A.deeper env):=
 ⟨r.hd,by have:=r.dp;show A.depth+1+3*k+5<_;omega,by have:=r.un;show A.units+3+16*k+200<_;omega⟩
theorem Zk{A:Around}{C:Addr}{us:List Value}{kw:List (Str×Value)}:(A.under (.builtin "type.__call__" ⟨.ref C::us,kw⟩)).depth=A.depth+1:=by
 first|rfl|simp[Around.under,Code.weight,Code.isCreation,Code.isGuard,Code.isCaller,Code.frames,Code.isFrame,guardIds]
theorem Zy{A:Around}{C:Addr}{us:List Value}{kw:List (Str×Value)}:(A.under (.builtin "type.__call__" ⟨.ref C::us,kw⟩)).units=A.units+1:=by
 first|rfl|simp[Around.under,Code.cUnits,Code.frames,Code.isFrame]
theorem eC.make{cm:Bool}{k:Nat}{A:Around}(r:eC cm (k+1) A)(C:Addr)(us:List Value)(kw:List (Str×Value)):eC cm k (A.under (.builtin "type.__call__" ⟨.ref C::us,kw⟩)):=
 ⟨r.hd,by have:=r.dp;rw[Zk];omega,by have:=r.un;rw[Zy];omega⟩
theorem eC.depth{cm:Bool}{k:Nat}{A:Around}(r:eC cm k A):A.depth<recursionLimit:=by have:=r.dp;omega
theorem eC.units{cm:Bool}{k:Nat}{A:Around}(r:eC cm k A):A.units+64<cLine:=by have:=r.un;omega
def Cv:TA:=fun _ H Q=>Q [] H
def GG(ta:TE)(tr:TA):TA:=fun σ H Q=>ta σ H fun x H1=>tr σ H1 fun xs H2=>Q (x::xs) H2
section
variable{X:Cx}{e:Expr}{es:List Expr}{te:TE}{t:TA}{pos:Pos}
theorem ai:PA X [] Cv:=fun _ _ _ _ H Q I h=>Calls.spliced_nil ⟨[],H,I, .nil,h⟩
theorem EU(ha:PE X e te)(hr:PA X es t)(hs:starEach (e::es) X.env=(false,eval e X.env)::starEach es X.env:=by rfl):PA X (e::es) (GG te t):=by
 intro pos pins s σ H Q I h;rw[hs];show wpAny _ _ (spliced ((false,eval e X.env)::backTo pos (starEach es X.env))) _ _ s;refine Calls.spliced_cons (cy (ha pins s σ H _ I h) fun u s1 ⟨x,H1,I1,r1,q1⟩=>?_);exact cy (hr pos pins s1 σ H1 _ I1 q1) fun us s2 ⟨xs,H2,I2,r2,q2⟩=>⟨x::xs,H2,I2, .cons r1 r2,q2⟩
def O9(t:TA):TE:=fun σ H Q=>t σ H fun xs H1=>xs.length≤sizeLine∧∀p,H1 p=none→Q (.ref p) (upd H1 p (.tup xs))
def O_(t:TA):TE:=fun σ H Q=>t σ H fun xs H1=>xs.length≤sizeLine∧∀p,H1 p=none→Q (.ref p) (upd H1 p (.lst xs))
theorem fK{x1}(h:PA X es t):PE X (.Tuple es x1 pos) (O9 t):=by
 intro pins s σ H Q I hq;refine wpAny_Tuple_spliced (cy (h pos pins s σ H _ I hq) fun us s1 ⟨xs,H1,I1,r,z,q⟩=>⟨by rw[←r.length];exact z,?_⟩);have hf:H1 s1.heap.objs.size=none:=I1.bR.fresh (Nat.le_refl _);refine⟨.ref s1.heap.objs.size,upd H1 s1.heap.objs.size (.tup xs),I1.laid (t':=s1.toks) (fun b u e=>XD e) (Nat.le_refl _) ?_,rfl,q _ hf⟩;exact⟨z,us,r,⟨_,Heap.get?_push_size _ rfl,rfl,_,rfl⟩⟩
theorem cf(h:PA X es t):PE X (.List es pos) (O_ t):=by
 intro pins s σ H Q I hq;refine wpAny_List_spliced (cy (h pos pins s σ H _ I hq) fun us s1 ⟨xs,H1,I1,r,z,q⟩=>⟨by rw[←r.length];exact z,?_⟩);have hf:H1 s1.heap.objs.size=none:=I1.bR.fresh (Nat.le_refl _);refine⟨.ref s1.heap.objs.size,upd H1 s1.heap.objs.size (.lst xs),I1.laid (t':=s1.toks) (fun b u e=>XD e) (Nat.le_refl _) ?_,rfl,q _ hf⟩;exact⟨z,us,0,r,Heap.get?_push_size _ rfl⟩
end
abbrev Sp:=List V→Hp→VK→XK→Prop
abbrev Cw:=List Env→Hp→Shared→XK→Value→Shared→Prop
structure YE(P:Program)(w:World)(K:PySem.W.Frag)(mg:Str→Option Value)(base:Heap)(A:Around)(outer:List Env)(s:Shared)(H:Hp):Prop where
 frames:A.frames=some outer
 mod:Mod K mg base
 bs:∀b o,base.get? b=some o→s.heap.get? b=some o∧H b=none
 HU:base.objs.size≤s.heap.objs.size
 sZ:s.heap.FunFrames base outer
 Lc:∀b∈mZ outer,H b=none
 bR:kE P w H s.heap
 bare:AllBare s.gens
def CE(outer:List Env)(P:Program)(w:World)(H:Hp)(s:Shared)(Q:VK)(u:Value)(s':Shared):Prop:=
 ∃v H',s'.os=s.os∧AllBare s'.gens∧Un (mZ outer) [] H H' s.heap s'.heap∧kE P w H' s'.heap∧RelV v u∧Q v H'
def CR(CX:Cw)(outer:List Env)(P:Program)(w:World)(H:Hp)(s:Shared)(Q:VK)(E:XK)(r:Result)(s':Shared):Prop:=
 match r with
 | .ok (.ret u)=>CE outer P w H s Q u s'
 | .ok _=>False
 | .error e=>CX outer H s E e s'
structure aZ(P:Program)(w:World)(K:PySem.W.Frag)(mg:Str→Option Value)(base:Heap)(CX:Cw)(cm:Bool)(k:Nat)(f:Addr)(fd:FuncData)(ps:List Str)(sp:Sp):Prop where
 len:∀vs H Q E,sp vs H Q E→vs.length=ps.length
 run:∀(A:Around)(outer:List Env)(s:Shared)(H:Hp)(args:Args)(us:List Value)(vs:List V)(Q:VK)(E:XK),eC cm k A→YE P w K mg base A outer s H→BindsTo s fd args (ps.zip us)→Vals vs us→sp vs H Q E→
  codeAny (model P w) A (.call (.ref f) args) (CR CX outer P w H s Q E) s
theorem YE.make{P:Program}{w:World}{K:PySem.W.Frag}{mg:Str→Option Value}{base:Heap}{A:Around}{outer:List Env}{s:Shared}{H:Hp}(e:YE P w K mg base A outer s H)(C:Addr)(us:List Value)(kw:List (Str×Value)):
  YE P w K mg base (A.under (.builtin "type.__call__" ⟨.ref C::us,kw⟩)) outer s H:=⟨by first|exact e.frames|(simpa[Around.under,Code.envs,Code.isFrame,pushEnvs]using e.frames),e.mod,e.bs,e.HU,e.sZ,e.Lc,e.bR,e.bare⟩
section
variable{X:Cx}{pins:List (Addr×Obj)}{σ:St}{H:Hp}{s s':Shared}
theorem Inv.Iq(I:Inv X pins σ H s):YE X.prog X.w X.K X.mg X.base X.A X.stack s H:=
 ⟨I.ok.frames,I.ok.mod,I.bs,Nat.le_trans I.ok.HU I.sz,I.stack,I.uM,I.bR,I.bare⟩
theorem Inv.after{Q:VK}{u:Value}(I:Inv X pins σ H s)(h:CE X.stack X.prog X.w H s Q u s'):EP X pins σ Q u s':=by
 obtain⟨v,H',os,bare,un,bR,r,q⟩:=h;obtain⟨hh,g,d,t,Uq⟩:=s';obtain rfl:Uq=s.os:=os;exact⟨v,H',I.call (h':=hh) (g':=g) (d':=d) (t':=t) (ch:=[]) un bR bare (fun b z=>absurd z XN),r,q⟩
end
def GH(sp:Sp)(lu:List V)(E:St→XK)(t:TA):TE:=fun σ H Q=>t σ H fun vs H1=>sp (vs++lu) H1 Q (E σ)
def YJ(C:Addr)(m:Str)(sp:Sp)(lu:List V)(E:St→XK)(ta:TE)(t:TA):TE:=fun σ H Q=>ta σ H fun x H1=>∃a dx fs,x= .ref a∧H1 a=some (.ins C dx fs)∧fs.lookup m=none∧
 t σ H1 fun vs H2=>sp (x::(vs++lu)) H2 Q (E σ)
def YL(C:Addr)(sp:Sp)(lu:List V)(E:St→XK)(t:TA):TE:=fun σ H Q=>t σ H fun vs H1=>∀x dx,H1 x=none→H1 dx=none→dx≠x→
 sp (.ref x::(vs++lu)) (upd (upd H1 dx (.own x)) x (.ins C dx [])) (fun v H2=>v= .cJ∧Q (.ref x) H2) (E σ)
def Binds(K:PySem.W.Frag)(fd:FuncData)(ps:List Str)(ds:List Value):Prop:=
 ∀(s:Shared)(us:List Value),K.In s.heap→(us++ds).length=ps.length→BindsTo s fd ⟨us,[]⟩ (ps.zip (us++ds))
theorem Binds.all{K:PySem.W.Frag}{fd:FuncData}{ps:List Str}(h:∀us:List Value,us.length=ps.length→bindArgs fd ⟨us,[]⟩=pure (ps.zip us)):Binds K fd ps []:=fun s us _ hl=>by
 rw[List.append_nil]at hl⊢;exact .of_eq (h us hl)
def Passes(CX:Cw)(X:Cx)(E:St→XK):Prop:=∀(pins:List (Addr×Obj))(σ:St)(H:Hp)(s:Shared)(e:Value)(s':Shared),Inv X pins σ H s→CX X.stack H s (E σ) e s'→X.xe e s'
section
variable{X:Cx}{CX:Cw}{cm:Bool}{k:Nat}{f C:Addr}{fd:FuncData}{ps:List Str}{sp:Sp}{lu:List V}{ds:List Value}{E:St→XK}{x m:Str}{p pos apos:Pos}{e o:Expr}{es:List Expr}{ta:TE}{t:TA}
theorem Ye{pins:List (Addr×Obj)}{σ:St}{H:Hp}{s:Shared}{Q:VK}{us:List Value}{vs:List V}(F:aZ X.prog X.w X.K X.mg X.base CX cm k f fd ps sp)(hr:eC cm k X.A)(hb:Binds X.K fd ps ds)(hd:Vals lu ds)(hx:Passes CX X E)
  (I:Inv X pins σ H s) (r:Vals vs us) (h:sp (vs++lu) H Q (E σ)):wpAny (model X.prog X.w) X.A (call (.ref f) us) (EP X pins σ Q) X.xe s:=by
 have r2:Vals (vs++lu) (us++ds):=r.append hd;have hl:(us++ds).length=ps.length:=by rw[←r2.length];exact F.len _ _ _ _ h
 refine wpAny_call (codeAny_mono (F.run X.A X.stack s H ⟨us,[]⟩ (us++ds) (vs++lu) Q (E σ) hr I.Iq (hb s us I.o7 hl) r2 h) fun r s' hq=>?_);cases r with
 |error e=>exact hx pins σ H s e s' I hq
 |ok fl=>
  cases fl with
  |ret u=>exact I.after hq
  |next=>exact False.elim hq
  |brk=>exact False.elim hq
  |cont=>exact False.elim hq
theorem EV(F:aZ X.prog X.w X.K X.mg X.base CX cm k f fd ps sp)(hr:eC cm k X.A)(hg:Gl X x)(hm:X.mg x=some (.ref f))(hk:PySem.W.keepIn X.K (.ref f)=true)(hb:Binds X.K fd ps ds)(hd:Vals lu ds)(hx:Passes CX X E)
  (ha:PA X (e::es) t) (uO:(x==("__debug__":Str))=false:=by decide) (he:starEach (e::es) X.env=(false,eval e X.env)::starEach es X.env:=by rfl) (nh:(backTo pos (starEach es X.env)).any (·.1)=false:=by rfl):
  PE X (.Call (.Name x p) (e::es) [] pos) (GH sp lu E t):=by
 intro pins s σ H Q I h;refine wpAny_Call_Name_kw (m6 I hg hm ?_ uO);refine PySem.W.callWith_K (h₀:=X.base) I.ok.mod.Ki hk (cy (ha pos pins s σ H _ I h) fun us s1 ⟨vs,H1,I1,r,q⟩=>⟨I1.o7,?_⟩) he nh;exact Ye F hr hb hd hx I1 r q
theorem EW{pl:Sem Bool}(he:PE X o ta)(c:uN X.K C)(hm:Meth X.K C m f)(F:aZ X.prog X.w X.K X.mg X.base CX cm k f fd ps sp)(hr:eC cm k X.A)(hb:Binds X.K fd ps ds)(hd:Vals lu ds)(hx:Passes CX X E)(ha:PA X (e::es) t)
  (ua:starEach (e::es) X.env=(false,eval e X.env)::starEach es X.env:=by rfl) (nh:(backTo pos (starEach es X.env)).any (·.1)=false:=by rfl)
  (ht:eval (.Call (.Attribute o m apos) (e::es) [] pos) X.env=(do
   let ov←eval o X.env
   standAt apos.atName
   let (f,first)←holding [ov] (getMethod ov m pl)
   callWith pos f first (backTo pos (starEach (e::es) X.env)) (backToKw pos (keywordEach [] X.env))):=by rfl):
  PE X (.Call (.Attribute o m apos) (e::es) [] pos) (YJ C m sp lu E ta t):=by
 intro pins s σ H Q I h;refine PySem.W.methodCall_KW (pl:=pl) (cy (he pins s σ H _ I h) fun u s1 ⟨x,H1,I1,rx,a,dx,fs,ex,ea,l,q⟩=>?_) ht;subst ex;obtain rfl:u=Value.ref a:=rx;refine mj I1 ea c hm l ?_;refine PySem.W.callWith_K (first:=[.ref a]) (h₀:=X.base) I.ok.mod.Ki hm.kp (cy (ha pos pins s1 σ H1 _ I1 q) fun us s2 ⟨vs,H2,I2,r,q2⟩=>⟨I2.o7,?_⟩) ua nh;exact Ye (us:= .ref a::us) (vs:= .ref a::vs) F hr hb hd hx I2 (.cons rfl r) q2
theorem Cy{pl:Sem Bool}(he:PE X o ta)(c:uN X.K C)(hm:Meth X.K C m f)(F:aZ X.prog X.w X.K X.mg X.base CX cm k f fd ps sp)(hr:eC cm k X.A)(hb:Binds X.K fd ps ds)(hd:Vals lu ds)(hx:Passes CX X E)
  (ht:eval (.Call (.Attribute o m apos) [] [] pos) X.env=(do
   let ov←eval o X.env
   standAt apos.atName
   let (f,first)←holding [ov] (getMethod ov m pl)
   callWith pos f first (backTo pos (starEach [] X.env)) (backToKw pos (keywordEach [] X.env))):=by rfl):
  PE X (.Call (.Attribute o m apos) [] [] pos) (YJ C m sp lu E ta Cv):=by
 intro pins s σ H Q I h;refine PySem.W.methodCall_KW (pl:=pl) (cy (he pins s σ H _ I h) fun u s1 ⟨x,H1,I1,rx,a,dx,fs,ex,ea,l,q⟩=>?_) ht;subst ex;obtain rfl:u=Value.ref a:=rx;refine mj I1 ea c hm l ?_;exact PySem.W.callWith_K0 (first:=[.ref a]) I1.o7 hm.kp (Ye (us:=[.ref a]) (vs:=[.ref a]) F hr hb hd hx I1 (.cons rfl .nil) q)
structure Mk(K:PySem.W.Frag)(C f:Addr):Prop where
 makes:PySem.W.makesIn K C=true
 init:PySem.W.findIn K (.ref C) "__init__"=some (some (.ref f))
 fn:PySem.W.isFn K (.ref f)=true
 kp:PySem.W.keepIn K (.ref C)=true
theorem wU{pins:List (Addr×Obj)}{σ:St}{H:Hp}{s:Shared}{Q:VK}{us:List Value}{vs:List V}(M:Mk X.K C f)(F:aZ X.prog X.w X.K X.mg X.base CX cm k f fd ps sp)(hr:eC cm (k+1) X.A)(hb:Binds X.K fd ps ds)(hd:Vals lu ds)
  (hx:Passes CX X E) (I:Inv X pins σ H s) (r:Vals vs us)
  (h:∀x dx,H x=none→H dx=none→dx≠x→sp (.ref x::(vs++lu)) (upd (upd H dx (.own x)) x (.ins C dx [])) (fun v H2=>v= .cJ∧Q (.ref x) H2) (E σ)):
  wpAny (model X.prog X.w) X.A (call (.ref C) us) (EP X pins σ Q) X.xe s:=by
 have hq:=h (s.heap.objs.size+1) s.heap.objs.size (I.bR.fresh (Nat.le_succ _)) (I.bR.fresh (Nat.le_refl _)) (Nat.ne_of_lt (Nat.lt_succ_self _));have I2:=Inv.made (C:=C) I;have r2:Vals (V.ref (s.heap.objs.size+1)::(vs++lu)) (Value.ref (s.heap.objs.size+1)::(us++ds)):= .cons rfl (r.append hd);have hl:(Value.ref (s.heap.objs.size+1)::us++ds).length=ps.length:=by
  have e:=r2.length;rw[F.len _ _ _ _ hq]at e;exact e.symm
 refine wpAny_call (Ct (f:=f) I.o7 M.makes M.init (beq_iff_eq.mp M.fn) (codeAny_mono (F.run _ X.stack _ _ ⟨Value.ref (s.heap.objs.size+1)::us,[]⟩ (Value.ref (s.heap.objs.size+1)::(us++ds)) _ _ (E σ) (hr.make C us [])
  (I2.Iq.make C us []) (hb _ (Value.ref (s.heap.objs.size+1)::us) I2.o7 hl) r2 hq) fun r s' LB=>?_))
 cases r with
 |error e=>exact hx pins σ _ _ e s' I2 LB
 |ok fl=>
  cases fl with
  |ret u=>
   obtain⟨v,H',I3,rv,ev,q3⟩:=I2.after LB;subst ev;exact⟨rv,⟨V.ref (s.heap.objs.size+1),H',I3,rfl,q3⟩⟩
  |next=>exact False.elim LB
  |brk=>exact False.elim LB
  |cont=>exact False.elim LB
theorem EX(M:Mk X.K C f)(F:aZ X.prog X.w X.K X.mg X.base CX cm k f fd ps sp)(hr:eC cm (k+1) X.A)(hg:Gl X x)(hm:X.mg x=some (.ref C))(hb:Binds X.K fd ps ds)(hd:Vals lu ds)(hx:Passes CX X E)
  (ha:PA X (e::es) t) (uO:(x==("__debug__":Str))=false:=by decide) (he:starEach (e::es) X.env=(false,eval e X.env)::starEach es X.env:=by rfl) (nh:(backTo pos (starEach es X.env)).any (·.1)=false:=by rfl):
  PE X (.Call (.Name x p) (e::es) [] pos) (YL C sp lu E t):=by
 intro pins s σ H Q I h;refine wpAny_Call_Name_kw (m6 I hg hm ?_ uO);refine PySem.W.callWith_K (h₀:=X.base) I.ok.mod.Ki M.kp (cy (ha pos pins s σ H _ I h) fun us s1 ⟨vs,H1,I1,r,q⟩=>⟨I1.o7,?_⟩) he nh;exact wU M F hr hb hd hx I1 r q
theorem Cz(M:Mk X.K C f)(F:aZ X.prog X.w X.K X.mg X.base CX cm k f fd ps sp)(hr:eC cm (k+1) X.A)(hg:Gl X x)(hm:X.mg x=some (.ref C))(hb:Binds X.K fd ps ds)(hd:Vals lu ds)(hx:Passes CX X E)
  (uO:(x==("__debug__":Str))=false:=by decide):PE X (.Call (.Name x p) [] [] pos) (YL C sp lu E Cv):=by
 intro pins s σ H Q I h;refine wpAny_Call_Name_kw (m6 I hg hm ?_ uO);exact PySem.W.callWith_K0 I.o7 M.kp (wU (us:=[]) M F hr hb hd hx I .nil h)
end
section
variable{X:Cx}{CX:Cw}{cm:Bool}{k:Nat}{f C:Addr}{fd:FuncData}{ps ks:List Str}{sp:Sp}{E:St→XK}{x m:Str}{p pos apos Ur:Pos}{e o:Expr}{es:List Expr}{WO:List Keyword}{te ta:TE}{t tk:TA}{nm:Option Str}
variable{g:List Value→List Value→List Value}{gV:List V→List V→List V}
end
structure aJ(N P:List Str)(sc:Scope):Prop where
 kind:sc.kind= .function
 co:sc.isCoroutine=false
 gen:sc.isGenerator=false
 nd:N.Nodup
 pre:N.take P.length=P
 par:∀x∈P,sc.names.lookup x=some .local∨sc.names.lookup x=some .cell
 Ir:∀y∈sc.names,y.2≠ .free
theorem uc{kindOf:Str→Option NameKind}{x:Str}:∀{binds:List (Str×Value)}{m:Str→Option Value},(∀v,(x,v)∉binds)→bindL kindOf binds m x=m x
 |[],_,_=>rfl
 |(n,v)::r,m,h=>by
  unfold bindL;rw[uc fun w hw=>h w (List.mem_cons_of_mem _ hw)];split
  ·have:x≠n:=by rintro rfl;exact h v List.mem_cons_self
   simp[this]
  ·rfl
theorem ud{kindOf:Str→Option NameKind}{x:Str}:∀{binds:List (Str×Value)}{m:Str→Option Value},(∀v,(x,v)∉binds)→bindC kindOf binds m x=m x
 |[],_,_=>rfl
 |(n,v)::r,m,h=>by
  unfold bindC;rw[ud fun w hw=>h w (List.mem_cons_of_mem _ hw)];split
  ·rfl
  ·have:x≠n:=by rintro rfl;exact h v List.mem_cons_self
   simp[this]
theorem ue{kindOf:Str→Option NameKind}{x:Str}{v:Value}:∀{P:List Str}{vs:List Value}{i:Nat}{m:Str→Option Value},P.Nodup→P[i]?=some x→vs[i]?=some v→kindOf x=some .local→
  bindL kindOf (P.zip vs) m x=some v
 |[],_,_,_,_,h,_,_=>by simp at h
 | _::_,[],_,_,_,_,h,_=>by simp at h
 |p::P,w::vs,0,m,nd,h1,h2,hk=>by
  simp at h1 h2;subst h1;subst h2;show bindL kindOf ((p,w)::P.zip vs) m p=_;unfold bindL;rw[uc fun v hv=>(List.nodup_cons.mp nd).1 (List.of_mem_zip hv).1,XH hk];simp
 |p::P,w::vs,i+1,m,nd,h1,h2,hk=>by
  show bindL kindOf ((p,w)::P.zip vs) m x=_;unfold bindL;exact ue (i:=i) (List.nodup_cons.mp nd).2 (by simpa using h1) (by simpa using h2) hk
theorem uf{kindOf:Str→Option NameKind}{x:Str}{v:Value}:∀{P:List Str}{vs:List Value}{i:Nat}{m:Str→Option Value},P.Nodup→P[i]?=some x→vs[i]?=some v→kindOf x≠some .local→
  bindC kindOf (P.zip vs) m x=some v
 |[],_,_,_,_,h,_,_=>by simp at h
 | _::_,[],_,_,_,_,h,_=>by simp at h
 |p::P,w::vs,0,m,nd,h1,h2,hk=>by
  simp at h1 h2;subst h1;subst h2;show bindC kindOf ((p,w)::P.zip vs) m p=_;unfold bindC;rw[ud fun v hv=>(List.nodup_cons.mp nd).1 (List.of_mem_zip hv).1,XE hk];simp
 |p::P,w::vs,i+1,m,nd,h1,h2,hk=>by
  show bindC kindOf ((p,w)::P.zip vs) m x=_;unfold bindC;exact uf (i:=i) (List.nodup_cons.mp nd).2 (by simpa using h1) (by simpa using h2) hk
def start(N:List Str)(vs:List V):St:=vs.map some++List.replicate (N.length-vs.length) none
def Y8(CX:Cw)(cm:Bool)(P:Program)(w:World)(K:PySem.W.Frag)(mg:Str→Option Value)(base:Heap)(N:List Str)(qual:Str)(scope:Scope)(f:Addr)(cd:Value)(A:Around)(outer:List Env)(s:Shared)(H:Hp)(E:XK):Cx where
 prog:=P
 w:=w
 K:=K
 mg:=mg
 base:=base
 A:=A.deeper (envOfC qual scope s.heap.objs.size f cd)
 N:=N
 c_:=s
 eD:=H
 env:=envOfC qual scope s.heap.objs.size f cd
 outer:=outer
 stack:=envOfC qual scope s.heap.objs.size f cd::outer
 ex:=[]
 calm:=cm
 fn:=fun _=>true
 pn:=[]
 xe:=fun e s'=>wpAny (model P w) (A.deeper (envOfC qual scope s.heap.objs.size f cd)) (leaving (envOfC qual scope s.heap.objs.size f cd) e) (fun _ uP=>CX outer H s E e uP) (fun e' uP=>CX outer H s E e' uP) s'
theorem wV{sc:Scope}{n:Nat}{x:Str}(h:sc.names.lookup x=some .cell):∃c,(cellsFrom n sc.names []).lookup x=some c:=by
 have q:=PySem.W.cellsFrom_some sc.names n [] (.inl h);exact Option.isSome_iff_exists.mp q
theorem A5{CX:Cw}{cm:Bool}{P:Program}{w:World}{K:PySem.W.Frag}{mg:Str→Option Value}{base:Heap}{N ps:List Str}{qual:Str}{scope:Scope}{f:Addr}{cd:Value}{A:Around}{outer:List Env}{s s1:Shared}{H:Hp}{E:XK}{us:List Value}{vs:List V}
  (S:aJ N ps scope) (hd:cm=true→A.handled=none) (e0:YE P w K mg base A outer s H) (hl:vs.length=ps.length) (r:Vals vs us)
  (x:InCallC s s.heap.objs.size (bindL (envOfC qual scope s.heap.objs.size f cd).kindOf (ps.zip us) fun _=>none) (cellsFrom (s.heap.objs.size+1) scope.names []) (bindC (envOfC qual scope s.heap.objs.size f cd).kindOf (ps.zip us) fun _=>none) s1):
  Inv (Y8 CX cm P w K mg base N qual scope f cd A outer s H E) [] (start N vs) H s1:=by
 have nh:ps.length≤N.length:=by have:=congrArg List.length S.pre;rw[List.length_take]at this;omega
 obtain⟨h1,tk,rfl,hk⟩:=x.done;have LC:∀b:Addr,b∉(Y8 CX cm P w K mg base N qual scope f cd A outer s H E).ex:=fun b z=>absurd (show b∈([]:List Addr)from z) (XX)
 refine⟨⟨e0.mod,S.kind,rfl,rfl,Nat.le_refl _,fun y z c h1 h2=>?_,fun y hy=>?_,fun y c _ h=>?_,fun z=>hd z,Around.frames_deeper e0.frames, .inr ⟨rfl,rfl⟩,fun b z=>absurd z (LC b),e0.bs,e0.HU,fun b _ _=>LC b,fun b z=>absurd z (LC b),e0.sZ,e0.Lc⟩,
  rfl,e0.bare,Un.kept hk,⟨_,x.toInCall.ns,fun i y v h1 h2 h3=>?_⟩,fun y c h=>⟨_,x.cell y c h⟩,e0.bR.fresh (Nat.le_refl _),fun y c h=>?_,fun p hp=>absurd (show p∈([]:List (Addr×Obj))from hp) (XX),e0.bR.kept hk,?_⟩
 ·exact name_of_addr x.apart (PySem.mem_of_lookup h1) (PySem.mem_of_lookup h2)
 ·have hy:scope.names.lookup y=some .cell∨scope.names.lookup y=some .free:=hy;rcases hy with hy|hy
  ·exact wV hy
  ·exact absurd rfl (S.Ir _ (PySem.mem_of_lookup hy))
 ·exact Nat.le_of_lt (x.above y c (PySem.mem_of_lookup h))
 ·have hi:i<vs.length:=by
   unfold start at h2;by_cases hi:i<vs.length
   ·exact hi
   ·rw[List.getElem?_append_right (by simpa using hi)]at h2;rw[List.getElem?_replicate]at h2;split at h2<;>cases h2
  have ha:vs[i]?=some v:=by
   unfold start at h2;rw[List.getElem?_append_left (by simpa using hi),List.getElem?_map]at h2;cases e:vs[i]? with
   |none=>rw[e]at h2;cases h2
   |some a=>rw[e]at h2;cases h2;rfl
  obtain⟨u,hu,rv⟩:=r.get ha;have hp:ps[i]?=some y:=by
   rw[←S.pre,List.getElem?_take_of_lt XQ];exact h1
  have RK:ps.Nodup:=by rw[←S.pre];exact S.nd.sublist (List.take_sublist _ _)
  refine⟨u,rv,?_⟩;rcases S.par y (XF hp)with k|k
  ·exact .inl ⟨k,ue RK hp hu k⟩
  ·obtain⟨c,e⟩:=wV (n:=s.heap.objs.size+1) k;refine .inr ⟨.inl k,c,e,?_⟩;have q:=x.cell y c e;rw[uf RK hp hu (by show scope.names.lookup y≠_;rw[k];decide)]at q;exact q
 ·exact e0.bR.fresh (Nat.le_of_lt (x.above y c (PySem.mem_of_lookup h)))
 ·unfold start;show _=N.length;rw[List.length_append,List.length_map,List.length_replicate];omega
theorem GI{CX:Cw}{cm:Bool}{P:Program}{w:World}{K:PySem.W.Frag}{mg:Str→Option Value}{base:Heap}{k:Nat}{f:Addr}{name qual:Str}{params:Arguments}{body:List Stmt}{scope:Scope}{dV kV doc pm cc ct oc:Value}{an od:Option Addr}
  {Y4:Array (Option Value)} {N ps:List Str} {sp:Sp} (lk:K.lookup f=some ⟨oc,od, .func (PySem.W.fnOf name qual params body scope dV kV doc pm an cc ct),Y4⟩) (AV:PySem.W.codeIn K cc qual=true) (S:aJ N ps scope)
  (len:∀vs H Q E,sp vs H Q E→vs.length=ps.length)
  (wX:∀(A:Around)(outer:List Env)(s:Shared)(H:Hp)(vs:List V)(Q:VK)(E:XK),eC cm k (A.deeper (envOfC qual scope s.heap.objs.size f cc))→sp vs H Q E→
   ∃t,AU (Y8 CX cm P w K mg base N qual scope f cc A outer s H E) body t∧t {nx:=fun _ H'=>Q .cJ H',rt:=Q} (start N vs) H):
  aZ P w K mg base CX cm (k+1) f (PySem.W.fnOf name qual params body scope dV kV doc pm an cc ct) ps sp:=by
 refine⟨len,fun A outer s H args us vs Q E hr e0 hb r Ey=>?_⟩;have hl:=len _ _ _ _ Ey;have KX:K.In s.heap:=e0.mod.Ki.keeps fun b o e=>(e0.bs b o e).1
 have lim:s.heap.NoLimit:=e0.mod.nolimit.keeps fun b o e=>(e0.bs b o e).1
 have LD:∀y∈ps.zip us,scope.names.lookup y.1=some .local∨(scope.names.lookup y.1=some .cell∧((cellsFrom (s.heap.objs.size+1) scope.names []).lookup y.1).isSome=true):=fun⟨n,v⟩ hy=>by
  rcases S.par n (List.of_mem_zip hy).1 with q|q
  ·exact .inl q
  ·exact .inr ⟨q,PySem.W.cellsFrom_some _ _ _ (.inl q)⟩
 refine codeAny_call_function hr.depth (KX _ _ lk) rfl S.co S.gen rfl (PySem.W.codeRec_of KX AV) (hb _ _ _ _ ?_);refine wpAny_newFunctionEnv_cells S.kind LD fun env he s1 x=>?_
 subst he;refine⟨lim.keeps x.toInCall.keep,codeAny_func ?_⟩;obtain⟨t,ht,hq⟩:=wX A outer s H vs Q E (hr.deeper _) Ey;have I:Inv (Y8 CX cm P w K mg base N qual scope f cc A outer s H E) [] (start N vs) H s1:=A5 S hr.hd e0 hl r x;refine wpAny_mono (ht [] s1 (start N vs) H _ I hq) (fun fl s' hs=>?_) fun e s' hs=>hs
 have fin:∀{bA:St}{H':Hp}{v:V}{u:Value},Inv (Y8 CX cm P w K mg base N qual scope f cc A outer s H E) [] bA H' s'→RelV v u→Q v H'→CE outer P w H s Q u s':=
  fun{bA H' v u} J rv q=>⟨v,H',J.os,J.bare,J.base,J.bR,rv,q⟩
 cases fl with
 |ret u=>
  obtain⟨v,bA,H',J,rv,q⟩:=hs;exact fin J rv q
 |next=>
  obtain⟨bA,H',J,q⟩:=hs;exact fin (v:=V.cJ) (u:=Value.none) J rfl q
 |brk=>
  obtain⟨_,_,_,q⟩:=hs;exact False.elim q
 |cont=>
  obtain⟨_,_,_,q⟩:=hs;exact False.elim q
section
variable{X:Cx}{x:Str}{p pos:Pos}{e:Expr}{es:List Expr}{t:TA}{id T:String}{r:List V→Hp→VK→Prop}
def RL(r:List V→Hp→VK→Prop)(t:TA):TE:=fun σ H Q=>t σ H fun vs H1=>r vs H1 Q
theorem aS(hc:gL X (.builtin id) r)(hg:Gl X x)(hm:X.mg x=none)(hv:bootBuiltins x=some (.builtin id))(ha:PA X (e::es) t)(hn:x≠"__name__":=by decide)(uO:(x==("__debug__":Str))=false:=by decide)
  (he:starEach (e::es) X.env=(false,eval e X.env)::starEach es X.env:=by rfl) (nh:(backTo pos (starEach es X.env)).any (·.1)=false:=by rfl):PE X (.Call (.Name x p) (e::es) [] pos) (RL r t):=by
 intro pins s σ H Q I h;refine wpAny_Call_Name_kw (jR I hg hm hv ?_ hn uO);exact PyProof.Rows.callWith_builtin1 (cy (ha pos pins s σ H _ I h) fun us s1 ⟨vs,H1,I1,r1,q1⟩=>hc pins s1 σ H1 vs us Q I1 r1 q1) he nh
theorem gk(hc:gL X (.type T) r)(hg:Gl X x)(hm:X.mg x=none)(hv:bootBuiltins x=some (.type T))(ha:PA X (e::es) t)(hn:x≠"__name__":=by decide)(uO:(x==("__debug__":Str))=false:=by decide)
  (he:starEach (e::es) X.env=(false,eval e X.env)::starEach es X.env:=by rfl) (nh:(backTo pos (starEach es X.env)).any (·.1)=false:=by rfl):PE X (.Call (.Name x p) (e::es) [] pos) (RL r t):=by
 intro pins s σ H Q I h;refine wpAny_Call_Name_kw (jR I hg hm hv ?_ hn uO);exact PyProof.Rows.callWith_type1 (cy (ha pos pins s σ H _ I h) fun us s1 ⟨vs,H1,I1,r1,q1⟩=>hc pins s1 σ H1 vs us Q I1 r1 q1) he nh
end
section
variable{κ:Type}[DecidableEq κ]
def bh(kvs:List (κ×V))(k:κ):Option V:=(kvs.find? fun kv=>decide (kv.1=k)).map (·.2)
def putK(kvs:List (κ×V))(k:κ)(v:V):List (κ×V):=
 if (kvs.any fun kv=>decide (kv.1=k))=true then kvs.map (fun kv=>if kv.1=k then(kv.1,v)else kv)else kvs++[(k,v)]
def iE(kvs:List (κ×V))(k:κ):List (κ×V):=kvs.filter fun kv=>decide (kv.1≠k)
theorem wY{k:κ}:bh ([]:List (κ×V)) k=none:=rfl
theorem cz{p:κ×V}{r:List (κ×V)}{k:κ}(e:p.1=k):bh (p::r) k=some p.2:=by simp[bh,List.find?_cons,e]
theorem cj{p:κ×V}{r:List (κ×V)}{k:κ}(e:¬p.1=k):bh (p::r) k=bh r k:=by simp[bh,List.find?_cons,e]
theorem gM(k:κ):∀kvs:List (κ×V),(kvs.any fun kv=>decide (kv.1=k))=(bh kvs k).isSome
 |[]=>rfl
 |p::r=>by
  rw[List.any_cons];by_cases e:p.1=k
  ·simp only[cz e,decide_eq_true e,Bool.true_or,Option.isSome_some]
  ·rw[cj e,decide_eq_false e,Bool.false_or];exact gM k r
theorem wZ(k j:κ)(y:V):∀kvs:List (κ×V),bh (kvs.map fun kv=>if kv.1=k then(kv.1,y)else kv) j=(bh kvs j).map fun x=>if j=k then y else x
 |[]=>rfl
 |p::r=>by
  have ih:=wZ k j y r;rw[List.map_cons];by_cases h:p.1=k
  ·rw[XH h];by_cases e:p.1=j
   ·rw[cz (p:=(p.1,y)) e,cz e,Option.map_some,XH (e.symm.trans h)]
   ·rw[cj (p:=(p.1,y)) e,cj e,ih]
  ·rw[XE h];by_cases e:p.1=j
   ·rw[cz (p:=p) e,cz e,Option.map_some,XE (fun z=>h (e.trans z))]
   ·rw[cj (p:=p) e,cj e,ih]
theorem ug(k j:κ)(y:V):∀kvs:List (κ×V),bh kvs k=none→bh (kvs++[(k,y)]) j=if j=k then some y else bh kvs j
 |[],_=>by
  by_cases e:k=j
  ·rw[XH e.symm];exact cz (p:=(k,y)) e
  ·rw[XE (fun z=>e z.symm)];exact cj (p:=(k,y)) e
 |p::r,hn=>by
  rw[List.cons_append];have hk:¬p.1=k:=fun z=>by rw[cz z]at hn;cases hn
  rw[cj hk]at hn;have ih:=ug k j y r hn;by_cases e:p.1=j
  ·rw[cz e,cz e,XE (fun z=>hk (e.trans z))]
  ·rw[cj e,cj e,ih]
theorem jv(kvs:List (κ×V))(k j:κ)(y:V):bh (putK kvs k y) j=if j=k then some y else bh kvs j:=by
 unfold putK;by_cases a:(kvs.any fun kv=>decide (kv.1=k))=true
 ·rw[XH a,wZ];rw[gM]at a;by_cases e:j=k
  ·obtain⟨x,hx⟩:=Option.isSome_iff_exists.mp a;rw[XH e,e,hx,Option.map_some,if_pos rfl]
  ·rw[XE e];cases bh kvs j with
   |none=>rfl
   |some x=>rw[Option.map_some,XE e]
 ·rw[XE a];refine ug k j y kvs ?_;rw[gM]at a;cases q:bh kvs k with
  |none=>rfl
  |some x=>rw[q]at a;exact(a rfl).elim
theorem fE(kvs:List (κ×V))(k:κ)(v:V):(putK kvs k v).length≤kvs.length+1:=by
 unfold putK;split
 ·rw[List.length_map];omega
 ·rw[List.length_append,List.length_cons,List.length_nil];omega
theorem rp{kvs:List (κ×V)}{k:κ}(v:V)(h:bh kvs k=none):putK kvs k v=kvs++[(k,v)]:=by
 unfold putK;rw[gM,h];exact if_neg (XU)
theorem jQ.jw{o:Option V}{u:Option Value}(r:jQ o u):o.isSome=u.isSome:=by
 cases o with
 |none=>cases u with
  |none=>rfl
  |some _=>exact(show False from r).elim
 |some _=>cases u with
  |none=>exact(show False from r).elim
  |some _=>rfl
theorem jQ.getD{o:Option V}{u:Option Value}{d:V}{d':Value}(r:jQ o u)(rd:RelV d d'):RelV (o.getD d) (u.getD d'):=by
 cases o with
 |none=>cases u with
  |none=>exact rd
  |some _=>exact(show False from r).elim
 |some _=>cases u with
  |none=>exact(show False from r).elim
  |some _=>exact r
theorem KV.val{kvs:List (κ×V)}{vs:List (κ×Value)}(r:KV kvs vs)(k:κ):jQ (bh kvs k) (valueAt vs k):=by
 unfold KV at r
 induction r with
 |nil=>exact True.intro
 |@cons p q ps qs h t ih=>
  obtain⟨h1,h2⟩:=h;by_cases e:p.1=k
  ·have e':q.1=k:=h1.symm.trans e;have b:valueAt (q::qs) k=some q.2:=by simp[valueAt,List.find?_cons,e']
   rw[cz e,b];exact h2
  ·have e':¬q.1=k:=fun z=>e (h1.trans z)
   have b:valueAt (q::qs) k=valueAt qs k:=by simp[valueAt,List.find?_cons,e']
   rw[cj e,b];exact ih
theorem KV.any{kvs:List (κ×V)}{vs:List (κ×Value)}(r:KV kvs vs)(k:κ):(kvs.any fun kv=>decide (kv.1=k))=vs.any fun kv=>decide (kv.1=k):=by
 unfold KV at r
 induction r with
 |nil=>rfl
 |cons h t ih=>rw[List.any_cons,List.any_cons,ih,h.1]
theorem KV.Iu{kvs:List (κ×V)}{vs:List (κ×Value)}(r:KV kvs vs)(k:κ){y:V}{u:Value}(ry:RelV y u):
  KV (kvs.map fun kv=>if kv.1=k then(kv.1,y)else kv) (vs.map fun kv=>if kv.1=k then(kv.1,u)else kv):=by
 unfold KV at r⊢
 induction r with
 |nil=>exact .nil
 |@cons p q ps qs h t ih=>
  rw[List.map_cons,List.map_cons];refine .cons ?_ ih;obtain⟨h1,h2⟩:=h;by_cases e:p.1=k
  ·rw[XH e,XH (h1.symm.trans e)];exact⟨h1,ry⟩
  ·rw[XE e,XE (fun z=>e (h1.trans z))];exact⟨h1,h2⟩
theorem KV.put{kvs:List (κ×V)}{vs:List (κ×Value)}(r:KV kvs vs)(k:κ){y:V}{u:Value}(ry:RelV y u):KV (putK kvs k y) (stored vs k u):=by
 unfold putK stored;rw[r.any k];by_cases e:(vs.any fun kv=>decide (kv.1=k))=true
 ·rw[XH e,XH e];exact r.Iu k ry
 ·rw[XE e,XE e];exact Paired.snoc r ⟨rfl,ry⟩
theorem KV.length{kvs:List (κ×V)}{vs:List (κ×Value)}(r:KV kvs vs):kvs.length=vs.length:=Paired.length r
theorem w6(kvs:List (κ×V))(k:κ):(iE kvs k).length≤kvs.length:=List.length_filter_le _ _
end
theorem uh{P:Program}{w:World}{k:Key}{u:Value}(r:RelV (kV k) u):(cQ P w).is k u=true:=by
 cases k with
 |inl i=>obtain⟨t,e⟩:=(show ∃t,u=Value.int i t from r);subst e;exact wJ P w i t
 |inr x=>obtain⟨t,e⟩:=(show ∃t,u=Value.str x t from r);subst e;exact wK P w x t
theorem ui{P:Program}{w:World}:∀{ks:List Key}{us:List Value},Vals (ks.map kV) us→ItemsAre (cQ P w) ks us
 |[],_,r=>by rw[List.map_nil]at r;cases r;exact .nil
 |k::ks,_,r=>by
  rw[List.map_cons]at r;cases r with
  |cons h t=>exact .cons (uh h) (ui t)
abbrev KT(H:Hp):List (List Key×V)→List (List Key×Addr×Value)→Prop:=Paired fun p q=>p.1=q.1∧H q.2.1=some (.tup (p.1.map kV))∧RelV p.2 q.2.2
theorem KT.val{H:Hp}{kvs:List (List Key×V)}{xs:List (List Key×Addr×Value)}(r:KT H kvs xs)(k:List Key):jQ (bh kvs k) ((atKey xs k).map (·.2)):=by
 induction r with
 |nil=>exact True.intro
 |@cons p q ps qs h t ih=>
  obtain⟨h1,_,h2⟩:=h;by_cases e:p.1=k
  ·have e':q.1=k:=h1.symm.trans e;have b:atKey (q::qs) k=some q.2:=by simp[atKey,List.find?_cons,e']
   rw[cz e,b];exact h2
  ·have e':¬q.1=k:=fun z=>e (h1.trans z)
   have b:atKey (q::qs) k=atKey qs k:=by simp[atKey,List.find?_cons,e']
   rw[cj e,b];exact ih
theorem KT.Iu{H:Hp}{kvs:List (List Key×V)}{xs:List (List Key×Addr×Value)}(r:KT H kvs xs)(k:List Key){y:V}{u:Value}(ry:RelV y u):
  KT H (kvs.map fun kv=>if kv.1=k then(kv.1,y)else kv) (xs.map (putAt k u)):=by
 induction r with
 |nil=>exact .nil
 |@cons p q ps qs h t ih=>
  rw[List.map_cons,List.map_cons];refine .cons ?_ ih;obtain⟨h1,h2,h3⟩:=h;unfold putAt;by_cases e:p.1=k
  ·rw[XH e,XH (h1.symm.trans e)];exact⟨h1,h2,ry⟩
  ·rw[XE e,XE (fun z=>e (h1.trans z))];exact⟨h1,h2,h3⟩
theorem KT.put{H:Hp}{kvs:List (List Key×V)}{xs:List (List Key×Addr×Value)}(r:KT H kvs xs)(k:List Key){b:Addr}{y:V}{u:Value}(hb:H b=some (.tup (k.map kV)))(ry:RelV y u):
  KT H (putK kvs k y) (storedH xs k b u):=by
 have e:(kvs.any fun kv=>decide (kv.1=k))=(atKey xs k).isSome:=by
  rw[gM,(r.val k).jw,Option.isSome_map]
 unfold putK storedH;rw[e];by_cases q:(atKey xs k).isSome=true
 ·rw[XH q,XH q];exact r.Iu k ry
 ·rw[XE q,XE q];exact Paired.snoc r ⟨rfl,hb,ry⟩
theorem KT.keeps{H H':Hp}{kvs:List (List Key×V)}{xs:List (List Key×Addr×Value)}(r:KT H kvs xs)(ht:∀b ys,H b=some (.tup ys)→H' b=some (.tup ys)):KT H' kvs xs:=
 Paired.HR r fun _ _ z=>⟨z.1,ht _ _ z.2.1,z.2.2⟩
section
variable{P:Program}{w:World}{H:Hp}{h:Heap}{a:Addr}
theorem GJ{u:HO}(ok:kE P w H h)(e:Rd H a u):cK P w H h a u:=e.ok ok
theorem rq{kvs:List (Key×V)}(ok:kE P w H h)(e:Rd H a (.dK kvs)):kvs.length≤sizeLine∧(a==sysModules)=false∧∃vs,KV kvs vs∧h.DictOf (cQ P w) a vs:=
 show cK P w H h a (.dK kvs)from GJ ok e
theorem LF{kvs:List (Key×V)}(ok:kE P w H h)(e:H a=some (.dK kvs)):kvs.length≤sizeLine∧(a==sysModules)=false∧∃vs,KV kvs vs∧h.DictOf (cQ P w) a vs:=rq ok (.inl e)
theorem mn{ks:List Key}(ok:kE P w H h)(e:H a=some (.tup (ks.map kV))):(tupleKind (cQ P w)).is h ks a:=by
 obtain⟨_,its,r,o,h1,h2,n,h3⟩:=(show cK P w H h a (.tup (ks.map kV))from ok a _ e)
 exact⟨o,its.toArray,n,h1,h2,h3,by simpa using ui r⟩
theorem rz{kvs:List (List Key×V)}(ok:kE P w H h)(e:Rd H a (.dT kvs)):kvs.length≤sizeLine∧(a==sysModules)=false∧
  ∃xs,KT H kvs xs∧h.DictOfH (tupleKind (cQ P w)) a xs:=by
 obtain⟨z,y,xs,r,o,es,ep,h1,h2,h3,h4,h5⟩:=(show cK P w H h a (.dT kvs)from GJ ok e)
 refine⟨z,y,xs,r,o,es,ep,h1,h2,h3,h4,fun x hx=>?_,h5⟩;have all:∀{l:List (List Key×V)}{m:List (List Key×Addr×Value)},KT H l m→∀x∈m,(tupleKind (cQ P w)).is h x.1 x.2.1:=by
  intro l m q
  induction q with
  |nil=>intro x hx;exact nomatch hx
  |@cons p q ps qs hq t ih=>
   intro x hx;rcases List.mem_cons.mp hx with e|hx
   ·subst e;exact mn ok (by rw[←hq.1];exact hq.2.1)
   ·exact ih x hx
 exact all r x hx
theorem GK{kvs:List (List Key×V)}(ok:kE P w H h)(e:H a=some (.dT kvs)):kvs.length≤sizeLine∧(a==sysModules)=false∧
  ∃xs,KT H kvs xs∧h.DictOfH (tupleKind (cQ P w)) a xs:=rz ok (.inl e)
end
def jx(H:Hp)(a:Addr)(y:V)(r:Option V):Prop:=
 (∃kvs k,Rd H a (.dK kvs)∧y=kV k∧r=bh kvs k)∨∃kvs k b,Rd H a (.dT kvs)∧y= .ref b∧H b=some (.tup (k.map kV))∧r=bh kvs k
def EY(H:Hp)(a:Addr)(y v:V)(H':Hp):Prop:=
 (∃kvs k,H a=some (.dK kvs)∧y=kV k∧kvs.length<sizeLine∧H'=upd H a (.dK (putK kvs k v)))∨
 ∃kvs k b,H a=some (.dT kvs)∧y= .ref b∧H b=some (.tup (k.map kV))∧kvs.length<sizeLine∧H'=upd H a (.dT (putK kvs k v))
theorem jx.t{H:Hp}{a b:Addr}{kvs:List (List Key×V)}{k:List Key}(e:H a=some (.dT kvs))(eb:H b=some (.tup (k.map kV))):jx H a (.ref b) (bh kvs k):= .inr ⟨kvs,k,b, .inl e,rfl,eb,rfl⟩
theorem EY.t{H:Hp}{a b:Addr}{kvs:List (List Key×V)}{k:List Key}{v:V}(e:H a=some (.dT kvs))(eb:H b=some (.tup (k.map kV)))(hl:kvs.length<sizeLine):
  EY H a (.ref b) v (upd H a (.dT (putK kvs k v))):= .inr ⟨kvs,k,b,e,rfl,eb,hl,rfl⟩
section
variable{X:Cx}{pins:List (Addr×Obj)}{σ:St}{H:Hp}{s:Shared}{a:Addr}{y v:V}{u r:Value}{o:Option V}{A:Around}{E:Value→Shared→Prop}
theorem Inv.big(I:Inv X pins σ H s):sysModules<s.heap.objs.size:=by
 have h:mainGlobals<s.heap.objs.size:=(I.mod.glob.keeps I.bk).lt;exact Nat.lt_trans (XU) h
theorem A6{Q:Value→Shared→Prop}(hu:A.units+1<cLine)(I:Inv X pins σ H s)(g:jx H a y (some v))(ry:RelV y u)(h:∀w' s',Inv X pins σ H s'→RelV v w'→Q w' s'):
  wpAny (model X.prog X.w) A (getItem (.ref a) u) Q E s:=by
 rcases g with⟨kvs,k,e,ey,l⟩|⟨kvs,k,b,e,ey,eb,l⟩
 ·subst ey;obtain⟨z,hd,vs,rel,dd⟩:=rq I.bR e;obtain⟨w',hw,oZ⟩:=jQ.some_of (v:=v) (o:=valueAt vs k) (by rw[l];exact rel.val k);exact wpAny_getItem_of (uh ry) dd.mapOf hw (h w' _ (I.tok _) oZ)
 ·subst ey;cases(show u=Value.ref b from ry);obtain⟨z,hd,xs,rel,dd⟩:=rz I.bR e;obtain⟨w',hw,oZ⟩:=jQ.some_of (v:=v) (o:=(atKey xs k).map (·.2)) (by rw[l];exact rel.val k);obtain⟨p,hp,CA⟩:=Option.map_eq_some_iff.mp hw;refine wpAny_getItem_heap (tupleKind_room_in1 hu) (mn I.bR eb) dd hp ?_;rw[CA];exact h w' _ (I.tok _) oZ
theorem Pa{Q:Value→Shared→Prop}(hu:A.units+1<cLine)(I:Inv X pins σ H s)(g:jx H a y o)(ry:RelV y u)(h:∀s',Inv X pins σ H s'→Q (.bool o.isSome) s'):
  wpAny (model X.prog X.w) A (compareOp .In u (.ref a)) Q E s:=by
 rcases g with⟨kvs,k,e,ey,l⟩|⟨kvs,k,b,e,ey,eb,l⟩
 ·subst ey;obtain⟨z,hd,vs,rel,dd⟩:=rq I.bR e;refine wpAny_in_of (uh ry) hd dd.mapOf ?_;rw[←(rel.val k).jw,←l];exact h _ (I.tok _)
 ·subst ey;cases(show u=Value.ref b from ry);obtain⟨z,hd,xs,rel,dd⟩:=rz I.bR e;refine wpAny_in_heap (tupleKind_room_in1 hu) (mn I.bR eb) hd dd ?_;have q:=(rel.val k).jw;rw[Option.isSome_map]at q;rw[←q,←l];exact h _ (I.tok _)
theorem EZ{Q:Value→Shared→Prop}(hu:A.units+1<cLine)(I:Inv X pins σ H s)(g:jx H a y o)(ry:RelV y u)(h:∀s',Inv X pins σ H s'→Q (.bool (!o.isSome)) s'):
  wpAny (model X.prog X.w) A (compareOp .NotIn u (.ref a)) Q E s:=by
 rcases g with⟨kvs,k,e,ey,l⟩|⟨kvs,k,b,e,ey,eb,l⟩
 ·subst ey;obtain⟨z,hd,vs,rel,dd⟩:=rq I.bR e;refine wpAny_notIn_of (uh ry) hd dd.mapOf ?_;rw[←(rel.val k).jw,←l];exact h _ (I.tok _)
 ·subst ey;cases(show u=Value.ref b from ry);obtain⟨z,hd,xs,rel,dd⟩:=rz I.bR e;refine wpAny_notIn_heap (tupleKind_room_in1 hu) (mn I.bR eb) hd dd ?_;have q:=(rel.val k).jw;rw[Option.isSome_map]at q;rw[←q,←l];exact h _ (I.tok _)
theorem uQ{h':Heap}{t':Nat}{ob:HO}(I:Inv X pins σ H s)(mu:K_ (H a))(hs:Heap.SameBut a s.heap h')(he:∃q,h'.get? a=some q)(new:cK X.prog X.w (upd H a ob) h' a ob):
  Inv X pins σ (upd H a ob) {s with heap:=h',toks:=t'}:=
 I.write (x:=a) (e:=a) mu (.inl rfl) (fun b q hb z=>(hs.2 b hb).trans z) he new
theorem Iv{P:Program}{w:World}{H':Hp}{h':Heap}{kvs:List (Key×V)}{vs:List (Key×Value)}(z:kvs.length≤sizeLine)(hd:(a==sysModules)=false)(rel:KV kvs vs)(dd:h'.DictOf (cQ P w) a vs):
  cK P w H' h' a (.dK kvs):=⟨z,hd,vs,rel,dd⟩
theorem A7{H':Hp}{Q:Unit→Shared→Prop}(hu:A.units+1<cLine)(I:Inv X pins σ H s)(g:EY H a y v H')(ry:RelV y u)(rv:RelV v r)(h:∀s',Inv X pins σ H' s'→Q () s'):
  wpAny (model X.prog X.w) A (setItem (.ref a) u r) Q E s:=by
 rcases g with⟨kvs,k,e,ey,l,eH⟩|⟨kvs,k,b,e,ey,eb,l,eH⟩
 ·subst ey eH;obtain⟨z,hd,vs,rel,dd⟩:=LF I.bR e;have hz:vs.length≤sizeLine:=by rw[←rel.length];exact z
  have hl:(putK kvs k v).length≤sizeLine:=by have:=fE kvs k v;omega
  refine wpAny_setItem_pairs (hsz:=hz) (uh ry) dd fun h' GL hs=>h _ ?_
  have he:∃q,h'.get? a=some q:=let ⟨q,_,_,hq,_⟩:=GL;⟨q,hq⟩
  exact uQ I (by rw[e];exact True.intro) hs he (Iv hl hd (rel.put k rv) GL)
 ·subst ey eH;cases(show u=Value.ref b from ry);obtain⟨z,hd,xs,rel,dd⟩:=GK I.bR e;have hz:xs.length≤sizeLine:=by rw[←Paired.length rel];exact z
  have hl:(putK kvs k v).length≤sizeLine:=by have:=fE kvs k v;omega
  refine wpAny_setItem_heap (hsz:=hz) (tupleKind_room_in1 hu) (mn I.bR eb) dd fun h' GL hs=>h _ ?_
  obtain⟨q,es,ep,hq,h2,h3,h4,_,h5⟩:=GL;refine uQ I (by rw[e];exact True.intro) hs ⟨q,hq⟩ ⟨hl,hd,_,(rel.put k eb rv).keeps fun c ys ec=>?_,q,es,ep,hq,h2,h3,h4,h5⟩;rw[aj (iC ec e (fun z=>nomatch z))];exact ec
end
section
variable{X:Cx}{pins:List (Addr×Obj)}{σ:St}{H:Hp}{s:Shared}{a:Addr}{kvs:List (Key×V)}{k:Key}{u:Value}{A:Around}{E:Value→Shared→Prop}
end
def LG(i:Expr):Prop:=∀ov iv,subscripted i false ov iv=operate [ov,iv] (getItem ov iv)
theorem E2{prog:Program}{w:World}{A:Around}{E:Value→Shared→Prop}{s:Shared}{env:Env}{value slice:Expr}{pos:Pos}{T id:String}{Q:Value→Shared→Prop}
  (hl:typeLookup (.type T) "__getitem__"=pure (some (.builtin id))) (hs:LG slice)
  (h:wpAny (model prog w) A (eval value env) (fun o bX=>wpAny (model prog w) A (eval slice env) (fun i o8=>o8.TypeIs o T∧wpAny (model prog w) A (getItem o i) Q E o8) E bX) E s):
  wpAny (model prog w) A (eval (.Subscript value slice pos) env) Q E s:=by
 refine Subscript_ (wpAny_mono h (fun o bX A8=>wpAny_mono A8 (fun i o8 CB=>?_) fun _ _ x=>x) fun _ _ x=>x);obtain⟨hT,CB⟩:=CB;unfold subscriptTail;refine wpAny_bind ?_;rw[getitemInPython_of_ne hT.not_modules];refine wpAny_bind (wpAny_specialOf hT hl ?_);have fin:wpAny (model prog w) A (subscripted slice false o i) (fun r A9=>wpAny (model prog w) A (letTemporaryGo value o r>>=fun _=>pure r) Q E A9) E o8:=by
  rw[hs o i];exact wpAny_operating (wpAny_mono CB (fun r A9 E3=>wpAny_bind (wpAny_letTemporaryGo (wpAny_pure E3))) fun _ _ x=>x)
 first
  |exact wpAny_pure (wpAny_bind fin)
  |exact wpAny_bind (wpAny_pure (wpAny_bind fin))
  |exact wpAny_bind fin
theorem w8{X:Cx}{pins:List (Addr×Obj)}{σ:St}{H:Hp}{s:Shared}{a:Addr}{y:V}{o:Option V}(I:Inv X pins σ H s)(g:jx H a y o):s.TypeIs (.ref a) "dict":=by
 rcases g with⟨kvs,k,e,_,_⟩|⟨kvs,k,b,e,_,_,_⟩
 ·obtain⟨_,_,vs,_,dd⟩:=rq I.bR e;exact dd.typeIs
 ·obtain⟨_,_,xs,_,dd⟩:=rz I.bR e;exact dd.typeIs
def LH(td ty:TE):TE:=fun σ H Q=>td σ H fun x H1=>ty σ H1 fun y H2=>∃a v,x= .ref a∧jx H2 a y (some v)∧Q v H2
def Pb(ty td:TE):TE:=fun σ H Q=>ty σ H fun y H1=>td σ H1 fun x H2=>∃a o,x= .ref a∧jx H2 a y o∧Q (.bl o.isSome) H2
def E4(ty td:TE):TE:=fun σ H Q=>ty σ H fun y H1=>td σ H1 fun x H2=>∃a o,x= .ref a∧jx H2 a y o∧Q (.bl (!o.isSome)) H2
def LI(td ty tv:TE):TS:=fun D σ H=>tv σ H fun v H1=>td σ H1 fun x H2=>ty σ H2 fun y H3=>∃a H4,x= .ref a∧EY H3 a y v H4∧D.nx σ H4
section
variable{X:Cx}{o i e value:Expr}{pos pos' O8:Pos}{td ty tv:TE}
theorem g_(hu:X.A.units+1<cLine)(ho:PE X o td)(hi:PE X i ty)(hs:LG i):PE X (.Subscript o i pos) (LH td ty):=by
 intro pins s σ H Q I h;refine E2 PySem.F.slot_dict_getitem.lookup hs (cy (ho pins s σ H _ I h) fun u s1 ⟨x,H1,I1,rx,q1⟩=>cy (hi pins s1 σ H1 _ I1 q1) fun iv s2 ⟨y,H2,I2,ry,a,v,ex,g,q2⟩=>?_);subst ex;obtain rfl:u=Value.ref a:=rx;exact⟨w8 I2 g,A6 hu I2 g ry fun w' s3 I3 oZ=>⟨v,H2,I3,oZ,q2⟩⟩
theorem rA(hu:X.A.units+1<cLine)(hi:PE X i ty)(ho:PE X o td):PC X .In i o (Pb ty td):=by
 intro pins s σ H Q I h;refine cy (hi pins s σ H _ I h) fun iv s1 ⟨y,H1,I1,ry,q1⟩=>cy (ho pins s1 σ H1 _ I1 q1) fun u s2 ⟨x,H2,I2,rx,a,ov,ex,g,q2⟩=>?_
 subst ex;obtain rfl:u=Value.ref a:=rx;exact Pa hu I2 g ry fun s3 I3=>⟨.bl ov.isSome,H2,I3,rfl,q2⟩
theorem A_(hu:X.A.units+1<cLine)(hi:PE X i ty)(ho:PE X o td):PC X .NotIn i o (E4 ty td):=by
 intro pins s σ H Q I h;refine cy (hi pins s σ H _ I h) fun iv s1 ⟨y,H1,I1,ry,q1⟩=>cy (ho pins s1 σ H1 _ I1 q1) fun u s2 ⟨x,H2,I2,rx,a,ov,ex,g,q2⟩=>?_
 subst ex;obtain rfl:u=Value.ref a:=rx;exact EZ hu I2 g ry fun s3 I3=>⟨.bl (!ov.isSome),H2,I3,rfl,q2⟩
theorem lz(hu:X.A.units+1<cLine)(ho:PE X o td)(hi:PE X i ty)(hv:PE X value tv)(hs:swapsWith value (some (.Subscript o i pos')) pos.line X.env=pure false):
  PS X (.Assign [.Subscript o i pos'] value pos) (LI td ty tv):=by
 intro pins s σ H D I h;refine wpAny_Assign_Subscript (cy (hv pins s σ H _ I h) fun r s1 ⟨v,H1,I1,rv,q1⟩=>cy (ho pins s1 σ H1 _ I1 q1) fun u s2 ⟨x,H2,I2,rx,q2⟩=>cy (hi pins s2 σ H2 _ I2 q2) fun iv s3 ⟨y,H3,I3,ry,a,H4,ex,g,q3⟩=>?_) hs;subst ex;obtain rfl:u=Value.ref a:=rx;exact A7 hu I3 g ry rv fun s4 I4=>⟨σ,H4,I4,q3⟩
end
theorem CC{P:Program}{w:World}{H:Hp}(h:Heap)(hb:sysModules<h.objs.size):cK P w H (h.push {cls:= .type "dict",data:= .dict #[]}) h.objs.size (.dT []):=
 ⟨Nat.zero_le _,beq_eq_false_iff_ne.mpr (Ne.symm (Nat.ne_of_lt hb)),[], .nil,_,#[],0,Heap.get?_push_size _ rfl,⟨rfl,rfl,rfl⟩,rfl,rfl,List.nodup_nil⟩
def Iw:TE:=fun _ H Q=>∀p,H p=none→Q (.ref p) (upd H p (.dT []))
section
variable{X:Cx}{pos:Pos}
theorem kG:PE X (.Dict [] [] pos) Iw:=fun pins s σ H Q I h=>
 wpAny_Dict_empty ⟨.ref s.heap.objs.size,_,I.laid (a:=s.heap.objs.size) (o:= .dT []) (t':=s.toks) (fun _ _ q=>XD q) (Nat.le_refl _) (CC s.heap I.big),rfl,h _ (I.bR.fresh (Nat.le_refl _))⟩
end
structure M1(X:Cx)(o:Expr)(m:Str)(apos:Pos)(e:Expr)(dX:Pos):Prop where
 base:attributeBase o m X.env (eval o X.env)=eval o X.env
 XY:((backTo dX (starEach [e] X.env)).all (fun x=>!x.1)&&(backToKw dX (keywordEach [] X.env)).all (fun x=>x.1.isSome)
  &&decide (([e]:List Expr).length+([]:List Keyword).length+(if ([]:List Keyword).isEmpty then 0 else 1)<30))=true
 line:(apos.endLine==dX.line)=true
 trees:backTo dX (starEach [e] X.env)=[(false,eval e X.env)]
def Pc(H:Hp)(a:Addr):Prop:=(∃kvs,Rd H a (.dK kvs))∨∃kvs,Rd H a (.dT kvs)
theorem CD{X:Cx}{pins:List (Addr×Obj)}{σ:St}{H:Hp}{s:Shared}{a:Addr}(I:Inv X pins σ H s)(d:Pc H a):
  s.TypeIs (.ref a) "dict"∧(∀b,Value.ref a= .ref b→∃ob,s.heap.get? b=some ob∧ob.dict=none)∧(a==sysModules)=false:=by
 rcases d with⟨kvs,e⟩|⟨kvs,e⟩
 ·obtain⟨_,hd,vs,_,dd⟩:=rq I.bR e;refine⟨dd.typeIs,fun b q=>?_,hd⟩;cases q;obtain⟨ob,_,_,h1,h2,_⟩:=dd;exact⟨ob,h1,h2.2.1⟩
 ·obtain⟨_,hd,xs,_,dd⟩:=rz I.bR e;refine⟨dd.typeIs,fun b q=>?_,hd⟩;cases q;obtain⟨ob,_,_,h1,h2,_⟩:=dd;exact⟨ob,h1,h2.2.1⟩
section
variable{X:Cx}{pins:List (Addr×Obj)}{σ:St}{H:Hp}{s:Shared}{a:Addr}{y d:V}{u r:Value}{o:Option V}{A:Around}{E:Value→Shared→Prop}
theorem Iy{Q:Value→Shared→Prop}(hu:A.units+1<cLine)(I:Inv X pins σ H s)(g:jx H a y o)(ry:RelV y u)(h:∀w' s',Inv X pins σ H s'→RelV (o.getD .cJ) w'→Q w' s'):
  wpAny (model X.prog X.w) A (call (.builtin "dict.get") [.ref a,u]) Q E s:=by
 rcases g with⟨kvs,k,e,ey,l⟩|⟨kvs,k,b,e,ey,eb,l⟩
 ·subst ey;obtain⟨z,hd,vs,rel,dd⟩:=rq I.bR e;refine call_meetsIn PySem.F.slot_dict_get dd.typeIs PySem.F.entry_dict_get (PySem.F.args_dict_get_2 _ _) (meets_dict_get (cQ X.prog X.w) a (uh ry) hd) ⟨_,dd.mapOf,h _ _ (I.tok _) ?_⟩;rw[l];exact(rel.val k).getD rfl
 ·subst ey;cases(show u=Value.ref b from ry);obtain⟨z,hd,xs,rel,dd⟩:=rz I.bR e;refine call_meetsIn PySem.F.slot_dict_get dd.typeIs PySem.F.entry_dict_get (PySem.F.args_dict_get_2 _ _) (meetsH_dict_get (tupleKind (cQ X.prog X.w)) a b hd) ⟨tupleKind_room_in1 hu,k,xs,mn I.bR eb,dd,h _ _ (I.tok _) ?_⟩;rw[l];exact(rel.val k).getD rfl
end
def IA(td ty:TE):TE:=fun σ H Q=>td σ H fun x H1=>∃a,x= .ref a∧Pc H1 a∧ty σ H1 fun y H2=>∃o,jx H2 a y o∧Q (o.getD .cJ) H2
section
variable{X:Cx}{o e f:Expr}{apos dX:Pos}{td ty tx:TE}
theorem CH(hu:X.A.units+1<cLine)(ho:PE X o td)(he:PE X e ty)(m:M1 X o "get" apos e dX):PE X (.Call (.Attribute o "get" apos) [e] [] dX) (IA td ty):=by
 intro pins s σ H Q I h;refine wpAny_Call_method m.base m.XY m.line PySem.F.plainAttrs_dict PySem.F.slot_dict_get PySem.F.type_dict_get (cy (ho pins s σ H _ I h) fun u s1 ⟨x,H1,I1,rx,a,ex,d,q1⟩=>?_);subst ex;obtain rfl:u=Value.ref a:=rx;obtain⟨t1,t2,_⟩:=CD I1 d;refine⟨t1,t2,?_⟩;rw[m.trees];refine Calls.callWith_builtin rfl (Calls.evalArgs_plain (Calls.spliced_cons (cy (he pins s1 σ H1 _ I1 q1) fun iv s2 ⟨y,H2,I2,ry,ov,g,q2⟩=>Calls.spliced_nil ?_)));exact Iy hu I2 g ry fun w' s3 I3 oZ=>⟨_,H2,I3,oZ,q2⟩
end
section
variable{X:Cx}{pins:List (Addr×Obj)}{σ:St}{H:Hp}{s:Shared}{a:Addr}{kvs:List (Key×V)}{A:Around}{E:Value→Shared→Prop}
end
section
variable{X:Cx}{pins:List (Addr×Obj)}{σ:St}{H:Hp}{s:Shared}{a:Addr}{y:V}{u:Value}{A:Around}{E:Value→Shared→Prop}
end
end L2
namespace HT
open PySem PyProof.Rows
section
open PySem.SeqAt
open PySem.AutoSeq1 (wpAny_loadPart')
open PySem.MeetsSeq PySem.MeetsSeq2 PySem.MeetsSeq3
end
section
variable{prog:Program}{w:World}{A:Around}{E:Value→Shared→Prop}{s:Shared}
def jS(n d:Nat):Option Int→Nat
 |none=>d
 |some v=>if v<0 then(v+(n:Int)).toNat else min v.toNat n
theorem CI(n d:Nat):jS n d none=d:=rfl
theorem CJ(n d:Nat)(hd:d≤n)(o:Option Int):jS n d o≤n:=by
 cases o with
 |none=>exact hd
 |some v=>
  show(if v<0 then(v+(n:Int)).toNat else min v.toNat n)≤n;by_cases hv:v<0
  ·rw[XH hv];omega
  ·rw[XE hv];exact Nat.min_le_right _ _
end
end HT
namespace L2
open PySem PySem.Spec PyProof.Rows
abbrev TO:=St→Hp→(Option Int→Hp→Prop)→Prop
def PO(X:Cx)(e:Option Expr)(t:TO):Prop:=
 ∀(pins:List (Addr×Obj))(s:Shared)(σ:St)(H:Hp)(Q:Option Int→Hp→Prop),Inv X pins σ H s→t σ H Q→
  wpAny (model X.prog X.w) X.A (evalPart e X.env) (fun u s'=>∃o H',Inv X pins σ H' s'∧IsPart u o∧Q o H') X.xe s
def E5:TO:=fun _ H Q=>Q none H
def LJ(t:TE):TO:=fun σ H Q=>t σ H fun x H1=>∃i,x= .int i∧Q (some i) H1
section
variable{X:Cx}{e:Expr}{te:TE}{lo hi:Option Expr}{tl th:TO}{pos p2:Pos}
theorem uR:PO X none E5:=by
 intro pins s σ H Q I h;rw[evalPart_none];exact wpAny_pure ⟨none,H,I, .none,h⟩
theorem jT(h:PE X e te):PO X (some e) (LJ te):=by
 intro pins s σ H Q I hw;rw[evalPart_some];refine cy (h pins s σ H _ I hw) fun u s1 ⟨x,H1,I1,r1,q1⟩=>?_
 obtain⟨i,rfl,q⟩:=q1;obtain⟨t,rfl⟩:=r1;exact⟨some i,H1,I1, .int i t,q⟩
def NC(X:Cx)(r:V→Option Int→Option Int→Hp→VK→Prop):Prop:=
 ∀(pins:List (Addr×Obj))(s:Shared)(σ:St)(H:Hp)(x:V)(v vl vu:Value)(lo hi:Option Int)(sl:Addr)(Q:VK),Inv X pins σ H s→RelV x v→s.heap.IsSliceOf sl vl vu .none→IsPart vl lo→IsPart vu hi→r x lo hi H Q→
  ∃T id,typeLookup (.type T) "__getitem__"=pure (some (.builtin id))∧s.TypeIs v T∧wpAny (model X.prog X.w) X.A (getItem v (.ref sl)) (EP X pins σ Q) X.xe s
def Us(r:V→Option Int→Option Int→Hp→VK→Prop)(te:TE)(tl th:TO):TE:=fun σ H Q=>te σ H fun x H1=>tl σ H1 fun l H2=>th σ H2 fun u H3=>r x l u H3 Q
theorem kH{r:V→Option Int→Option Int→Hp→VK→Prop}(hr:NC X r)(he:PE X e te)(hl:PO X lo tl)(hu:PO X hi th):PE X (.Subscript e (.Slice lo hi none p2) pos) (Us r te tl th):=by
 intro pins s σ H Q I h;refine Subscript_ (cy (he pins s σ H _ I h) fun v s1 ⟨x,H1,I1,r1,q1⟩=>?_);refine wpAny_Slice (cy (hl pins s1 σ H1 _ I1 q1) fun vl s2 ⟨l,H2,I2,pl,q2⟩=>cy (hu pins s2 σ H2 _ I2 q2) fun vu s3 ⟨u,H3,I3,pu,q3⟩=>?_);rw[evalPart_none];refine wpAny_pure ?_;have I4:Inv X pins σ H3 {s3 with heap:=s3.heap.push {cls:= .type "slice",data:= .fields #[vl,vu, .none]}}:=I3.kept (t':=s3.toks) fun b ob q=>XD q
 obtain⟨T,id,hT,ht,hg⟩:=hr pins {s3 with heap:=s3.heap.push {cls:= .type "slice",data:= .fields #[vl,vu, .none]}} σ H3 x v vl vu l u s3.heap.objs.size Q I4 r1 (Heap.IsSliceOf.new ..) pl pu q3;show wpAny (model X.prog X.w) X.A (subscriptTail e (.Slice lo hi none p2) v (.ref s3.heap.objs.size)) (EP X pins σ Q) X.xe {s3 with heap:=s3.heap.push {cls:= .type "slice",data:= .fields #[vl,vu, .none]}};exact tail_any (ops:=[.ref s3.heap.objs.size,v]) ht hT hg (by with_unfolding_all rfl)
def uS(xs:List V)(lo hi:Option Int):List V:=(xs.drop (HT.jS xs.length 0 lo)).take (HT.jS xs.length xs.length hi-HT.jS xs.length 0 lo)
theorem w9(xs:List V)(lo hi:Option Int):(uS xs lo hi).length≤xs.length:=by
 unfold uS;rw[List.length_take,List.length_drop];omega
end
def CK(n:Nat)(i:Int):Option Nat:=if 0≤i then(if i<n then some i.toNat else none)else if-(n:Int)≤i then some (i+n).toNat else none
def qV{α:Type}(xs:List α)(i:Int):Option α:=(CK xs.length i).bind fun j=>xs[j]?
theorem Yx{n:Nat}{i:Int}{j:Nat}(h:CK n i=some j):seqIndex? i n=some j∧j<n∧-(n:Int)≤i∧i<n:=by
 unfold CK at h;by_cases h0:0≤i
 ·rw[XH h0]at h;by_cases h1:i<n
  ·rw[XH h1]at h;have e:i.toNat=j:=XM h;exact⟨by rw[seqIndex_of h0 h1,e],XT,XT,h1⟩
  ·rw[XE h1]at h;cases h
 ·rw[XE h0]at h;by_cases h1:-(n:Int)≤i
  ·rw[XH h1]at h;have e:(i+n).toNat=j:=XM h;exact⟨by rw[seqIndex_neg XQ h1,e],XT,h1,XT⟩
  ·rw[XE h1]at h;cases h
theorem uT{α:Type}{xs:List α}{i:Int}{v:α}(h:qV xs i=some v):∃j,seqIndex? i xs.length=some j∧xs[j]?=some v∧j<xs.length∧-(xs.length:Int)≤i∧i<xs.length:=by
 unfold qV at h;cases e:CK xs.length i with
 |none=>rw[e]at h;cases h
 |some j=>
  rw[e]at h;obtain⟨h1,h2,h3,h4⟩:=Yx e;exact⟨j,h1,h,h2,h3,h4⟩
theorem av{α:Type}{xs:List α}{j:Nat}{v:α}(h:xs[j]?=some v):qV xs (j:Int)=some v:=by
 have hj:j<xs.length:=(Xv h).1;have e:CK xs.length (j:Int)=some j:=by
  unfold CK;rw[if_pos XQ,if_pos XQ];simp
 unfold qV;rw[e];exact h
theorem rB{α:Type}(xs:List α)(v:α):qV (xs++[v]) (-1)=some v:=by
 have hl:(xs++[v]).length=xs.length+1:=XX;have e:CK (xs++[v]).length (-1)=some xs.length:=by
  unfold CK;rw[hl,if_neg (XU),if_pos XQ]
  congr 1
  omega
 unfold qV;rw[e];show(xs++[v])[xs.length]?=some v;simp
def E6(b:Expr):Prop:=∀o i,subscripted b false o i=operate [o,i] (getItem o i)
def Kn(X:Cx)(r:R2):Prop:=
 ∀(value slice:Expr)(pins:List (Addr×Obj))(s:Shared)(σ:St)(H:Hp)(x y:V)(v u:Value)(Q:VK),Inv X pins σ H s→RelV x v→RelV y u→r x y H Q→
  subscripted slice false v u=operate [v,u] (getItem v u)→wpAny (model X.prog X.w) X.A (subscriptTail value slice v u) (EP X pins σ Q) X.xe s
def ND(X:Cx)(id:String)(r:V→List V→Hp→VK→Prop):Prop:=
 ∀(pins:List (Addr×Obj))(s:Shared)(σ:St)(H:Hp)(x:V)(xs:List V)(v:Value)(us:List Value)(Q:VK),Inv X pins σ H s→RelV x v→Vals xs us→r x xs H Q→
  wpAny (model X.prog X.w) X.A (call (.builtin id) (v::us)) (EP X pins σ Q) X.xe s
section
variable{X:Cx}{a b:Expr}{ta tb:TE}{pos:Pos}
theorem aB{r:R2}(hr:Kn X r)(ha:PE X a ta)(hb:PE X b tb)(hs:E6 b):PE X (.Subscript a b pos) (NB r ta tb):=by
 intro pins s σ H Q I h;exact Subscript_ (Ij ha hb I h fun v u s2 x y H2 I2 rx ry q=>hr a b pins s2 σ H2 x y v u Q I2 rx ry q (hs _ _))
inductive IB(K:PySem.W.Frag)(x:V)(y:V)(H:Hp)(Q:VK):Prop
 |mk (p:_) (xs:_) (i:_) (v:_) (_:x= .ref p) (_:y= .int i) (_:gZ K H p xs) (_:qV xs i=some v) (_:Q v H):IB K x y H Q
inductive IC(K:PySem.W.Frag)(x:V)(y:V)(H:Hp)(Q:VK):Prop
 |mk (p:_) (xs:_) (i:_) (v:_) (_:x= .ref p) (_:y= .int i) (_:Ck K H p xs) (_:qV xs i=some v) (_:Q v H):IC K x y H Q
inductive LK(x:V)(y:V)(H:Hp)(Q:VK):Prop
 |mk (z:_) (i:_) (c:_) (_:x= .str z) (_:y= .int i) (_:z.length≤sizeLine) (_:qV z.cps.toList i=some c) (_:Q (.str ⟨#[c]⟩) H):LK x y H Q
theorem E7:Kn X (IB X.K):=by
 intro value slice pins s σ H x y v u Q I rx ry h hs;obtain⟨p,xs,i,z,rfl,rfl,hq,he,q⟩:=h;cases rx;obtain⟨t,rfl⟩:=ry;obtain⟨its,r,pl,hz⟩:=I.list hq;obtain⟨j,h1,h2,h3,h4,h5⟩:=uT he;obtain⟨w,ew,oZ⟩:=r.get h2;have hl:=r.length;have hn:=pd;have fin:EP X pins σ Q w s:=⟨z,H,I,oZ,q⟩
 by_cases h0:0≤i
 ·have hj:i.toNat=j:=by
   rw[seqIndex_of h0 h5]at h1;exact XM h1
  exact item_listR pl.isList h0 XQ (by rw[hj];simpa using ew) fin hs
 ·have hj:(i+(its.toArray.size:Int)).toNat=j:=by
   rw[seqIndex_neg XQ h4]at h1;rw[List.size_toArray,←hl];exact XM h1
  exact subscriptTail_builtinR (x:=w) pl.isList.typeIs slot_list_getitem.lookup
   (wpAny_getItem_list_neg (Q:=fun r s'=>r=w∧EP X pins σ Q r s') pl.isList XQ (by rw[List.size_toArray]<;>omega) (XT) (by rw[hj];simpa using ew) ⟨rfl,fin⟩) hs
theorem ID:Kn X (IC X.K):=by
 intro value slice pins s σ H x y v u Q I rx ry h hs;obtain⟨p,xs,i,z,rfl,rfl,hq,he,q⟩:=h;cases rx;obtain⟨t,rfl⟩:=ry;obtain⟨its,r,pl,hz⟩:=I.tuple hq;obtain⟨j,h1,h2,h3,h4,h5⟩:=uT he;obtain⟨w,ew,oZ⟩:=r.get h2;have hl:=r.length;have hn:=pd;have fin:EP X pins σ Q w s:=⟨z,H,I,oZ,q⟩
 exact subscriptTail_builtinR (x:=w) pl.typeIs slot_tuple_getitem.lookup
  (getItem_tuple (j:=j) (Q:=fun r s'=>r=w∧EP X pins σ Q r s') pl XQ (XT) (by rw[List.size_toArray,←hl];exact h1) (by simpa using ew) ⟨rfl,fin⟩) hs
theorem CL:Kn X LK:=by
 intro value slice pins s σ H x y v u Q I rx ry h hs;obtain⟨z,i,c,rfl,rfl,hz,he,q⟩:=h;obtain⟨t,rfl⟩:=rx;obtain⟨t',rfl⟩:=ry;obtain⟨j,h1,h2,h3,h4,h5⟩:=uT he;have hl:z.cps.toList.length=z.length:=by simp[Str.length]
 rw[hl]at h1 h4 h5;have hn:=pd;exact tail_any (typeIs_str s z t) slot_str_getitem.lookup (getItem_str (c:=c) (by
  have e1:decide (i< -(2^63:Int))=false:=decide_eq_false XQ;have e2:decide (i≥2^63)=false:=decide_eq_false XQ;rw[e1,e2,Bool.or_false]) (by rw[h1];simpa using h2) ⟨.str ⟨#[c]⟩,H,I.tok _,⟨_,rfl⟩,q⟩) hs
theorem ZT(its:List Value)(n j:Nat)(u:Value):Obj.mapSeq (·.setIfInBounds j u) {cls:= .type "list",data:= .seq its.toArray n}={cls:= .type "list",data:= .seq (its.set j u).toArray n}:=by
 simp[Obj.mapSeq]
theorem Inv.lst{pins:List (Addr×Obj)}{σ:St}{H:Hp}{s:Shared}{p:Addr}{xs:List V}(I:Inv X pins σ H s)(h:H p=some (.lst xs)):
  ∃(its:List Value)(n:Nat),Vals xs its∧s.heap.get? p=some {cls:= .type "list",data:= .seq its.toArray n}∧xs.length≤sizeLine:=by
 obtain⟨z,its,n,r,e⟩:=I.bR p _ h;exact⟨its,n,r,e,z⟩
theorem Inv.IE{pins:List (Addr×Obj)}{σ:St}{H:Hp}{s:Shared}{p:Addr}{xs ys:List V}{its its':List Value}{n n':Nat}{f:Obj→Obj}(I:Inv X pins σ H s)(h:H p=some (.lst xs))
  (ho:s.heap.get? p=some {cls:= .type "list",data:= .seq its.toArray n}) (hf:f {cls:= .type "list",data:= .seq its.toArray n}={cls:= .type "list",data:= .seq its'.toArray n'}) (r:Vals ys its') (hz:ys.length≤sizeLine) (t:Nat):
  Inv X pins σ (upd H p (.lst ys)) {s with heap:=s.heap.update p f,toks:=t}:=by
 have e:(s.heap.update p f).get? p=some {cls:= .type "list",data:= .seq its'.toArray n'}:=by
  rw[Heap.get?_update_self f ho (by rw[hf]<;>rfl),hf]
 refine I.write (x:=p) (e:=p) (by rw[h];trivial) (.inl rfl) (fun b u hb q=>(Heap.get?_update_other _ _ (Ne.symm hb)).trans q) ⟨_,e⟩ ?_;exact⟨hz,its',n',r,e⟩
inductive GN(o:V)(i:V)(v:V)(H:Hp)(Q:(Hp→Prop)):Prop
 |mk (p:_) (xs:_) (k:_) (j:_) (_:o= .ref p) (_:i= .int k) (_:H p=some (.lst xs)) (_:CK xs.length k=some j) (_:Q (upd H p (.lst (xs.set j v)))):GN o i v H Q
theorem set_list:Lp X GN:=by
 intro pins s σ H o i v ov iv u Q I ro ri rv h;obtain⟨p,xs,k,j,rfl,rfl,hp,hj,q⟩:=h;cases ro;obtain⟨t,rfl⟩:=ri;obtain⟨its,n,r,ho,hz⟩:=I.lst hp;obtain⟨h1,h2,h3,h4⟩:=Yx hj;have hl:=r.length;have hn:=pd;have I':Inv X pins σ (upd H p (.lst (xs.set j v))) {s with heap:=s.heap.update p (Obj.mapSeq (·.setIfInBounds j u))}:=
  I.IE hp ho (ZT its n j u) (r.set rv j) (by rw[List.length_set];exact hz) s.toks
 by_cases h0:0≤k
 ·have hk:k.toNat=j:=by
   rw[seqIndex_of h0 h4]at h1;exact XM h1
  exact PySem.W.ki_setAt ho h0 XQ (by rw[List.size_toArray,←hl];exact h4) (by rw[hk];exact⟨_,I',q⟩)
 ·have hk:(k+(its.toArray.size:Int)).toNat=j:=by
   rw[seqIndex_neg XQ h3]at h1;rw[List.size_toArray,←hl];exact XM h1
  exact PySem.W.ki_setBack ho XQ (by rw[List.size_toArray,←hl];exact h3) (XT) (by rw[hk];exact⟨_,I',q⟩)
theorem uU(lo hi:Option Int)(n:Nat):(sliceBounds lo hi none n).1=((HT.jS n 0 lo:Nat):Int)∧(sliceBounds lo hi none n).2.1=((HT.jS n n hi:Nat):Int)∧(sliceBounds lo hi none n).2.2=1:=by
 refine⟨?_,?_,rfl⟩
 ·cases lo with
  |none=>simp[sliceBounds,HT.jS]
  |some i=>
   simp only[sliceBounds,HT.jS,Option.getD_none,show(1:Int)>0 by decide,if_true];by_cases h:i<0
   ·simp only[h,if_true]<;>lia
   ·simp only[h,if_false]<;>lia
 ·cases hi with
  |none=>simp[sliceBounds,HT.jS]
  |some i=>
   simp only[sliceBounds,HT.jS,Option.getD_none,show(1:Int)>0 by decide,if_true];by_cases h:i<0
   ·simp only[h,if_true]<;>lia
   ·simp only[h,if_false]<;>lia
theorem tf(its:List Value)(lo hi:Option Int):slicePick its.toArray lo hi none=((its.drop (HT.jS its.length 0 lo)).take (HT.jS its.length its.length hi-HT.jS its.length 0 lo)).toArray:=by
 obtain⟨h1,h2,h3⟩:=uU lo hi its.toArray.size;unfold slicePick;rw[h1,h2,h3];simp only[sliceRange_one,pick_run,List.size_toArray]<;>rfl
inductive IF(K:PySem.W.Frag)(x:V)(lo:Option Int)(hi:Option Int)(H:Hp)(Q:VK):Prop
 |mk (a:_) (xs:_) (_:x= .ref a) (_:gZ K H a xs) (_:∀p,H p=none→Q (.ref p) (upd H p (.lst (uS xs lo hi)))):IF K x lo hi H Q
theorem E8:NC X (IF X.K):=by
 intro pins s σ H x v vl vu lo hi sl Q I rx hs pl pu h;obtain⟨a,xs,rfl,hx,q⟩:=h;cases rx;obtain⟨its,r,ht,hz⟩:=I.list hx;have hlen:=r.length;refine⟨"list",_,slot_list_getitem.lookup,ht.isList.typeIs,?_⟩;refine wpAny_getItem_list_slice ht.isList hs pl pu .none (XX) ?_ (by rw[List.size_toArray]<;>omega);rw[tf,←hlen];refine⟨.ref s.heap.objs.size,_,I.laid (t':=s.toks) (o:= .lst (uS xs lo hi)) (fun b ob q=>XD q) (Nat.le_refl _) ?_,rfl,q _ (I.bR.fresh (Nat.le_refl _))⟩;exact⟨Nat.le_trans (w9 xs lo hi) hz,_,0,(r.drop (HT.jS xs.length 0 lo)).take (HT.jS xs.length xs.length hi-HT.jS xs.length 0 lo),Heap.get?_push_size _ rfl⟩
def qi:V→Bool
 | .cJ=>true
 | .bl _=>true
 | .int _=>true
 | .str _=>true
 | _=>false
def uV:V→V→Bool
 | .cJ, .cJ=>true
 | .bl a, .bl b=>a==b
 | .bl a, .int b=>(if a then 1 else 0)==b
 | .int a, .bl b=>a==(if b then 1 else 0)
 | .int a, .int b=>a==b
 | .str a, .str b=>a==b
 | _,_=>false
theorem uW{A:Around}{s:Shared}{y x:V}{u v:Value}(ry:RelV y u)(rx:RelV x v)(fy:qi y=true)(fx:qi x=true):SeqAt.EqAt A s u v (uV y x):=by
 cases y with
 |cJ=>
  cases ry;cases x with
  |cJ=>cases rx;exact SeqAt.EqAt.same _
  |bl b=>cases rx;exact SeqAt.EqAt.none_bool b
  |int b=>obtain⟨t,rfl⟩:=rx;exact SeqAt.EqAt.none_int b t
  |str b=>obtain⟨t,rfl⟩:=rx;exact SeqAt.EqAt.none_str b t
  | _=>exact absurd (show false=true from fx) Bool.false_ne_true
 |bl a=>
  cases ry;cases x with
  |cJ=>cases rx;exact SeqAt.EqAt.bool_none a
  |bl b=>cases rx;exact SeqAt.EqAt.bool_bool a b
  |int b=>obtain⟨t,rfl⟩:=rx;exact SeqAt.EqAt.bool_int a b t
  |str b=>obtain⟨t,rfl⟩:=rx;exact SeqAt.EqAt.bool_str a b t
  | _=>exact absurd (show false=true from fx) Bool.false_ne_true
 |int a=>
  obtain⟨t',rfl⟩:=ry;cases x with
  |cJ=>cases rx;exact SeqAt.EqAt.int_none a t'
  |bl b=>cases rx;exact SeqAt.EqAt.int_bool a t' b
  |int b=>obtain⟨t,rfl⟩:=rx;exact SeqAt.EqAt.int_int a t' b t
  |str b=>obtain⟨t,rfl⟩:=rx;exact SeqAt.EqAt.int_str a t' b t
  | _=>exact absurd (show false=true from fx) Bool.false_ne_true
 |str a=>
  obtain⟨t',rfl⟩:=ry;cases x with
  |cJ=>cases rx;exact SeqAt.EqAt.str_none a t'
  |bl b=>cases rx;exact SeqAt.EqAt.str_bool a t' b
  |int b=>obtain⟨t,rfl⟩:=rx;exact SeqAt.EqAt.str_int a t' b t
  |str b=>obtain⟨t,rfl⟩:=rx;exact SeqAt.EqAt.str_str a t' b t
  | _=>exact absurd (show false=true from fx) Bool.false_ne_true
 | _=>exact absurd (show false=true from fy) Bool.false_ne_true
theorem uX:gL X (.builtin "len") (fun xs H Q=>∃p ys,xs=[.ref p]∧(gZ X.K H p ys∨Ck X.K H p ys)∧Q (.int ys.length) H):=by
 intro pins s σ H xs us Q I r h;obtain⟨p,ys,rfl,hq,q⟩:=h;obtain⟨u,rfl,rx⟩:=vals1 r;cases rx;have hn:=pd;rcases hq with hq|hq
 ·obtain⟨its,r',pl,hz⟩:=I.list hq;have hlen:=r'.length;exact Calls.call_len_list pl.isList (by simp only[List.size_toArray]<;>omega) ⟨.int ys.length,H,I.tok _,⟨s.toks+1,by rw[List.size_toArray,hlen]⟩,q⟩
 ·obtain⟨its,r',pl,hz⟩:=I.tuple hq;have hlen:=r'.length;exact len_tuple pl (by simp only[List.size_toArray]<;>omega) ⟨.int ys.length,H,I.tok _,⟨s.toks+1,by rw[List.size_toArray,hlen]⟩,q⟩
theorem ni:gL X (.builtin "len") (fun xs H Q=>∃z,xs=[.str z]∧z.length≤sizeLine∧Q (.int z.length) H):=by
 intro pins s σ H xs us Q I r h;obtain⟨z,rfl,hz,q⟩:=h;obtain⟨u,rfl,t,rfl⟩:=vals1 r;have hn:=pd;exact len_str XQ ⟨.int z.length,H,I.tok _,⟨_,rfl⟩,q⟩
theorem uY:gL X (.type "list") (fun xs H Q=>∃p ys,xs=[.ref p]∧(gZ X.K H p ys∨Ck X.K H p ys)∧∀l,H l=none→Q (.ref l) (upd H l (.lst ys))):=by
 intro pins s σ H xs us Q I r h;obtain⟨p,ys,rfl,hq,q⟩:=h;obtain⟨u,rfl,rx⟩:=vals1 r;cases rx;have fin:∀(its:List Value),Vals ys its→ys.length≤sizeLine→∀(h':Heap)(c':Nat),(∀b o',s.heap.get? b=some o'→h'.get? b=some o')→
   h'.get? s.heap.objs.size=some {cls:= .type "list",dict:=none,data:= .seq its.toArray c',slots:=#[]}→EP X pins σ Q (.ref s.heap.objs.size) {s with heap:=h'}:=fun its r' hz h' c' kp e=>
  ⟨.ref s.heap.objs.size,_,I.laid (t':=s.toks) kp (Nat.le_refl _) (show cK X.prog X.w _ h' _ (.lst ys)from⟨hz,its,c',r',e⟩),rfl,q _ (I.bR.fresh (Nat.le_refl _))⟩
 rcases hq with hq|hq
 ·obtain⟨its,r',pl,hz⟩:=I.list hq;have hlen:=r'.length;obtain⟨o,ho,hc,n,hd⟩:=pl.isList;exact call_list_seq p (.inl rfl) ho hc hd (fun h' c' kp e=>fin its r' hz h' c' kp e) (by simp only[List.size_toArray]<;>omega)
 ·obtain⟨its,r',pl,hz⟩:=I.tuple hq;have hlen:=r'.length;obtain⟨o,ho,hc,n,hd⟩:=pl;exact call_list_seq p (.inr rfl) ho hc hd (fun h' c' kp e=>fin its r' hz h' c' kp e) (by simp only[List.size_toArray]<;>omega)
def Pd(K:PySem.W.Frag)(T:String)(x:V)(H:Hp):Prop:=match x with
 | .str _=>T="str"
 | .int _=>T="int"
 | .ref p=>(T="list"∧∃xs,gZ K H p xs)∨(T="tuple"∧∃o,K.lookup p=some o∧o.cls= .type "tuple"∧o.dict=none)∨
   (T="dict"∧((∃kvs,H p=some (.dK kvs))∨∃kvs,H p=some (.dT kvs)))∨(T="set"∧∃S n,H p=some (.set S n))
 | _=>False
theorem CM{pins:List (Addr×Obj)}{σ:St}{H:Hp}{s:Shared}{T:String}{x:V}{v:Value}(I:Inv X pins σ H s)(r:RelV x v)(ty:Pd X.K T x H):
  s.TypeIs v T∧∀a,v= .ref a→∃ob,s.heap.get? a=some ob∧ob.dict=none:=by
 cases x with
 |str z=>
  obtain⟨t,rfl⟩:=r;cases(show T="str" from ty);exact⟨typeIs_str s z t,fun _ e=>nomatch e⟩
 |int i=>
  obtain⟨t,rfl⟩:=r;cases(show T="int" from ty);exact⟨typeIs_int s i t,fun _ e=>nomatch e⟩
 |ref p=>
  cases r;rcases ty with⟨rfl,xs,hq⟩|⟨rfl,o,hk,hc,hd⟩|⟨rfl,hk⟩|⟨rfl,S,n,hk⟩
  ·obtain⟨its,_,pl,_⟩:=I.list hq;refine⟨pl.isList.typeIs,fun a e=>?_⟩;cases e;obtain⟨o,n,e,c,hd,_⟩:=pl;exact⟨o,e,hd⟩
  ·refine⟨⟨o,I.o7 p o hk,hc⟩,fun a e=>?_⟩;cases e;exact⟨o,I.o7 _ o hk,hd⟩
  ·have z:∃o,s.heap.get? p=some o∧o.ExactDict:=by
    rcases hk with⟨kvs,hk⟩|⟨kvs,hk⟩
    ·obtain⟨_,_,_,_,o,_,_,e,ex,_⟩:=I.bR p _ hk;exact⟨o,e,ex⟩
    ·obtain⟨_,_,_,_,o,_,_,e,ex,_⟩:=I.bR p _ hk;exact⟨o,e,ex⟩
   obtain⟨o,e,ex⟩:=z;refine⟨⟨o,e,ex.1⟩,fun a e2=>?_⟩;cases e2;exact⟨o,e,ex.2.1⟩
  ·obtain⟨o,_,_,_,e,ex,_⟩:=I.bR p _ hk;refine⟨⟨o,e,ex.1⟩,fun a e2=>?_⟩;cases e2;exact⟨o,e,ex.2.1⟩
 | _=>exact False.elim ty
def LL(K:PySem.W.Frag)(T:String)(r:V→List V→Hp→VK→Prop)(to:TE):TE:=fun σ H Q=>to σ H fun x H1=>Pd K T x H1∧r x [] H1 Q
def RM(K:PySem.W.Frag)(T:String)(r:V→List V→Hp→VK→Prop)(to:TE)(t:TA):TE:=fun σ H Q=>to σ H fun x H1=>Pd K T x H1∧t σ H1 fun xs H2=>r x xs H2 Q
variable{o e:Expr}{es:List Expr}{to:TE}{t:TA}{name:Str}{apos dX:Pos}{T id:String}{r:V→List V→Hp→VK→Prop}
theorem IG(pa:PlainAttrs T)(slot:Slot T name id)(B6:typeOf (.builtin id)=pure (.type "method_descriptor"))(hm:ND X id r)(ho:PE X o to)
  (nj:attributeBase o name X.env (eval o X.env)=eval o X.env:=by rfl) (nk:(apos.endLine==dX.line)=true:=by rfl):PE X (.Call (.Attribute o name apos) [] [] dX) (LL X.K T r to):=by
 intro pins s σ H Q I h;refine wpAny_Call_method0_late nj nk (cy (ho pins s σ H _ I h) fun v s1 ⟨x,H1,I1,r1,ty,q1⟩=>?_);obtain⟨h1,h2⟩:=CM I1 r1 ty;exact⟨T,id,pa,slot,B6,h1,h2,Calls.callWith_builtin rfl (PySem.evalArgs_none (hm pins s1 σ H1 x [] v [] Q I1 r1 .nil q1))⟩
theorem LM(pa:PlainAttrs T)(slot:Slot T name id)(B6:typeOf (.builtin id)=pure (.type "method_descriptor"))(hm:ND X id r)(ho:PE X o to)(ha:PA X (e::es) t)
  (nj:attributeBase o name X.env (eval o X.env)=eval o X.env:=by rfl)
  (Ba:((backTo dX (starEach (e::es) X.env)).all (fun x=>!x.1)&&(backToKw dX (keywordEach [] X.env)).all (fun x=>x.1.isSome)
   &&decide ((e::es).length+([]:List Keyword).length+(if ([]:List Keyword).isEmpty then 0 else 1)<30))=true:=by rfl)
  (nk:(apos.endLine==dX.line)=true:=by rfl) (hs:starEach (e::es) X.env=(false,eval e X.env)::starEach es X.env:=by rfl) (Y_:(backTo dX (starEach es X.env)).any (·.1)=false:=by rfl):
  PE X (.Call (.Attribute o name apos) (e::es) [] dX) (RM X.K T r to t):=by
 intro pins s σ H Q I h;refine wpAny_Call_method_late nj Ba nk rfl (cy (ho pins s σ H _ I h) fun v s1 ⟨x,H1,I1,r1,ty,q1⟩=>?_);obtain⟨h1,h2⟩:=CM I1 r1 ty;refine⟨T,id,pa,slot,B6,h1,h2,?_⟩;have hA:=ha dX pins s1 σ H1 _ I1 q1;rw[hs]at hA⊢;refine Calls.callWith_builtin (by show(false||(backTo dX (starEach es X.env)).any (·.1))=false;rw[Y_]<;>rfl) (Calls.evalArgs_plain ?_);exact cy hA fun us s2 ⟨vs,H2,I2,r2,q2⟩=>hm pins s2 σ H2 x vs v us Q I2 r1 r2 q2
end
def Pe(X:Cx)(id:String)(r:V→List V→Hp→VK→Prop):Prop:=
 ∀(pins:List (Addr×Obj))(s:Shared)(σ:St)(H:Hp)(x:V)(xs:List V)(v:Value)(us:List Value)(Q:VK),Inv X pins σ H s→RelV x v→Vals xs us→r x xs H Q→
  wpAny (model X.prog X.w) X.A (call (.builtin id) (v::us)) (EP X pins σ Q) X.xe s
theorem Vals.one:∀{x:V}{us:List Value},Vals [x] us→∃u,us=[u]∧RelV x u
 | _,_, .cons r .nil=>⟨_,rfl,r⟩
theorem Vals.zero:∀{us:List Value},Vals [] us→us=[]
 | _, .nil=>rfl
theorem Vals.reverse{xs:List V}{us:List Value}(h:Vals xs us):Vals xs.reverse us.reverse:=by
 induction h with
 |nil=>exact .nil
 |cons r t ih=>rw[List.reverse_cons,List.reverse_cons];exact Vals.append ih (.cons r .nil)
theorem Vals.rep{xs:List V}{us:List Value}(h:Vals xs us):∀k:Nat,Vals (List.replicate k xs).flatten (List.replicate k us).flatten
 |0=> .nil
 |k+1=>by
  rw[List.replicate_succ,List.replicate_succ,List.flatten_cons,List.flatten_cons];exact Vals.append h (Vals.rep h k)
theorem foldl_rep(its:List Value):∀(k:Nat)(acc:List Value),
  List.foldl (fun x1 x2=>x1++x2) acc.toArray (List.replicate k its.toArray)=(acc++(List.replicate k its).flatten).toArray
 |0,acc=>XX
 |k+1,acc=>by
  have e:acc.toArray++its.toArray=(acc++its).toArray:=XX;have e2:(acc++its)++(List.replicate k its).flatten=acc++(List.replicate (k+1) its).flatten:=by
   rw[List.replicate_succ,List.flatten_cons,List.append_assoc]
  rw[←e2,←foldl_rep its k (acc++its),←e,List.replicate_succ,List.foldl_cons]
section
variable{X:Cx}{pins:List (Addr×Obj)}{σ:St}{H:Hp}{s:Shared}{l b:Addr}{xs ys zs:List V}
theorem Inv.IH{its its':List Value}{n:Nat}{f:Array Value→Array Value}{t':Nat}(I:Inv X pins σ H s)(hH:H l=some (.lst xs))
  (e:s.heap.get? l=some {cls:= .type "list",data:= .seq its.toArray n}) (hf:f its.toArray=its'.toArray) (hv:Vals ys its') (hz:ys.length≤sizeLine):
  Inv X pins σ (upd H l (.lst ys)) {s with heap:=s.heap.update l (Obj.mapSeq f),toks:=t'}:=by
 have q:=PySem.IsL.update e f;rw[hf]at q;refine I.write (x:=l) (e:=l) (by rw[hH];exact trivial) (.inl rfl) (fun b' u hb hu=>(Heap.get?_update_other s.heap (Obj.mapSeq f) (Ne.symm hb)).trans hu) ⟨_,q⟩ ?_;exact⟨hz,its',_,hv,q⟩
theorem Inv.Pf{its:List Value}{t':Nat}(I:Inv X pins σ H s)(hv:Vals ys its)(hz:ys.length≤sizeLine):
  Inv X pins σ (upd H s.heap.objs.size (.lst ys)) {s with heap:=s.heap.push {cls:= .type "list",data:= .seq its.toArray},toks:=t'}:=
 I.laid (fun _ _ q=>XD q) (Nat.le_refl _) ⟨hz,its,0,hv,Heap.get?_push_size _ rfl⟩
theorem Inv.fresh(I:Inv X pins σ H s):H s.heap.objs.size=none:=I.bR.fresh (Nat.le_refl _)
theorem Inv.CO(I:Inv X pins σ H s)(hH:H l=some (.lst xs)):xs.length≤sizeLine∧∃(its:List Value)(n:Nat),Vals xs its∧xs.length=its.length∧s.heap.get? l=some {cls:= .type "list",data:= .seq its.toArray n}:=by
 obtain⟨z,its,n,r,e⟩:=I.bR l _ hH;exact⟨z,its,n,r,r.length,e⟩
theorem w_{n:Nat}(h:n≤sizeLine):Builtin.List.listTooLong n=false:=by
 unfold Builtin.List.listTooLong;exact decide_eq_false XQ
end
section
variable{X:Cx}
inductive Yk(x:V)(vs:List V)(H:Hp)(Q:VK):Prop
 |mk (l:_) (xs:_) (y:_) (_:x= .ref l) (_:vs=[y]) (_:H l=some (.lst xs)) (_:xs.length<sizeLine) (_:Q .cJ (upd H l (.lst (xs++[y])))):Yk x vs H Q
theorem bK:Pe X "list.append" Yk:=by
 intro pins s σ H x vs v us Q I rx rv h;obtain⟨l,xs,y,rfl,rfl,hH,hz,q⟩:=h;cases rx;obtain⟨u,rfl,ru⟩:=rv.one;obtain⟨z,its,n,r,hl,e⟩:=I.CO hH;refine call_meets F.slot_list_append ⟨_,e,rfl⟩ F.entry_list_append (F.args_list_append_2 _ _) (PySem.list_append l its.toArray n u (by rw[List.size_toArray];omega)) ⟨e,?_⟩;refine⟨.cJ,_,I.IH (its':=its++[u]) hH e XN (r.append (.cons ru .nil)) ?_,rfl,q⟩;rw[List.length_append,List.length_singleton];omega
def E9:V→List V→Hp→VK→Prop:=fun x vs H Q=>∃l b xs zs,x= .ref l∧vs=[.ref b]∧H l=some (.lst xs)∧H b=some (.lst zs)∧xs.length+zs.length≤sizeLine∧Q .cJ (upd H l (.lst (xs++zs)))
theorem uj:Pe X "list.extend" E9:=by
 intro pins s σ H x vs v us Q I rx rv h;obtain⟨l,b,xs,zs,rfl,rfl,hH,hB,hz,q⟩:=h;cases rx;obtain⟨u,rfl,ru⟩:=rv.one;cases ru;obtain⟨z,its,n,r,hl,e⟩:=I.CO hH;obtain⟨z2,fe,n2,r2,uk,e2⟩:=I.CO hB;have hsz:its.toArray.size+fe.toArray.size≤sizeLine:=by rw[List.size_toArray,List.size_toArray];omega
 have CP:¬(!its.toArray.isEmpty&&Builtin.List.listTooLong (its.toArray.size+fe.toArray.size))=true:=by
  rw[w_ hsz,Bool.and_false];exact Bool.false_ne_true
 refine call_meets F.slot_list_extend ⟨_,e,rfl⟩ F.entry_list_extend (F.args_list_extend_2 _ _)
  (AutoSeq1.list_extend_list_list_0 l its.toArray n b fe.toArray n2 CP (by rw[List.size_toArray];omega) (XT)) ⟨e,e2,?_⟩
 refine⟨.cJ,_,I.IH (its':=its++fe) hH e XN (r.append r2) ?_,rfl,q⟩;rw[List.length_append];omega
def CQ:V→List V→Hp→VK→Prop:=fun x vs H Q=>∃l xs,x= .ref l∧vs=[]∧H l=some (.lst xs)∧Q .cJ (upd H l (.lst xs.reverse))
theorem Zi:Pe X "list.reverse" CQ:=by
 intro pins s σ H x vs v us Q I rx rv h;obtain⟨l,xs,rfl,rfl,hH,q⟩:=h;cases rx;have Pg:=rv.zero;subst Pg;obtain⟨z,its,n,r,hl,e⟩:=I.CO hH;refine call_meets F.slot_list_reverse ⟨_,e,rfl⟩ F.entry_list_reverse (F.args_list_reverse_1 _) (AutoSeq1.list_reverse_list_0 l its.toArray n (by rw[List.size_toArray];omega)) ⟨e,?_⟩;refine⟨.cJ,_,I.IH (its':=its.reverse) hH e XN r.reverse ?_,rfl,q⟩;rw[List.length_reverse];omega
def Ph:R2:=fun x y H Q=>∃l k xs,x= .ref l∧y= .int k∧H l=some (.lst xs)∧-(2^63)≤k∧k<2^63∧xs.length*k.toNat≤sizeLine∧
 ∀p,H p=none→Q (.ref p) (upd H p (.lst (List.replicate k.toNat xs).flatten))
theorem len_rep{α:Type}(xs:List α)(k:Nat):(List.replicate k xs).flatten.length=k*xs.length:=by
 induction k with
 |zero=>simp
 |succ k ih=>rw[List.replicate_succ,List.flatten_cons,List.length_append,ih,Nat.succ_mul,Nat.add_comm]
theorem II:qT X (binaryOp .Mult) Ph:=by
 intro pins s σ H x y v u Q I rx ry h;obtain⟨l,k,xs,rfl,rfl,hH,h1,h2,hz,q⟩:=h;cases rx;obtain⟨t,rfl⟩:=ry;obtain⟨z,its,n,r,hl,e⟩:=I.CO hH;have hlen:its.toArray.size*k.toNat≤sizeLine:=by rw[List.size_toArray,←hl];exact hz
 have Pj:¬its.toArray.size*k.toNat>(2^63-1)/8:=by
  have:(sizeLine:Nat)≤(2^63-1)/8:=XU;omega
 have IJ:¬(!Builtin.List.listFitsIndex k)=true:=by
  rw[fitsIndex_both h1 h2];exact Bool.false_ne_true
 have CP:¬Builtin.List.listTooLong (its.toArray.size*k.toNat)=true:=by
  rw[w_ hlen];exact Bool.false_ne_true
 have Bb:List.foldl (fun x1 x2=>x1++x2) #[] (List.replicate (if its.toArray.isEmpty=true then 0 else k.toNat) its.toArray)=(List.replicate k.toNat its).flatten.toArray:=by
  have f0:∀m:Nat,List.foldl (fun x1 x2=>x1++x2) #[] (List.replicate m its.toArray)=(List.replicate m its).flatten.toArray:=fun m=>by
   have:=foldl_rep its m [];rw[List.nil_append]at this;exact this
  rw[f0];cases its with
  |nil=>simp
  |cons a r'=>rw[if_neg XN]
 refine wpAny_binaryOp_repeat_ref (T:="list") (U:="int") (XU) ⟨_,e,rfl⟩ (fun s'=>typeIs_int s' k t) noFill_list_mul F.fills_int_mul F.slot_int_rmul repeat_list F.slot_int_index.lookup
  (call_meets F.slot_int_rmul (typeIs_int s k t) F.entry_int_rmul (F.args_int_rmul_2 _ _) (int___rmul___int_list k t l its.toArray n)
   ⟨e,rfl,⟨_,e,rfl⟩,call_meets F.slot_list_mul ⟨_,e,rfl⟩ F.entry_list_mul (F.args_list_mul_2 _ _) (AutoListH.list___mul___list_int_3 l its.toArray n k t IJ Pj CP) ⟨e,?_⟩⟩)
 rw[Bb];exact⟨.ref _,_,I.Pf (t':=s.toks) (r.rep k.toNat) (by rw[len_rep,Nat.mul_comm];exact hz),rfl,q _ I.fresh⟩
end
section
variable{prog:Program}{w:World}{A:Around}{E:Value→Shared→Prop}{s:Shared}
end
section
variable{X:Cx}
end
end L2
namespace RN
open PySem PySem.W PySem.Calls PyProof.Rows
theorem qA{P:Params}{h:Heap}:∀(ns:List Int)(vs:List Value),WellAll P h vs (ns.map WData.int)→IntsAre vs ns:=by
 intro ns
 induction ns with
 |nil=>
  intro vs w;rw[List.map_nil]at w;cases w;exact .nil
 |cons n ns ih=>
  intro vs w;rw[List.map_cons]at w;cases w with
  |cons a b=>
   cases a;exact .cons _ _ (ih _ b)
theorem Bc{l:OpenLaw}{n:Nat}(hn:l.most=some n){P:Params}{h:Heap}{args:List WData}{vals:List Value}
  (E_:l.row.toRowW.claim.pre args=true) (LN:WellAll P h vals args):
  ∃a vs ns,vals=[Value.ref a]∧args=[WData.list (ns.map WData.int)]∧h.get? a=some {cls:= .type "list",data:= .seq vs.toArray}∧IntsAre vs ns∧ns.length≤n:=by
 have LO:WShape.hasAll [] args [.list .int]=true:=(pre_splitW E_).1;have hc:l.pre.holds [] {args:=args}=true:=(pre_splitW E_).2;obtain⟨d,r,rfl,h1,h2⟩:=hasAllW_cons LO;obtain rfl:=hasAllW_nil h2;obtain⟨xs,rfl,h3⟩:=hasW_list h1;obtain⟨ns,rfl⟩:=items_int h3;have hlen:ns.length≤n:=by
  unfold OpenLaw.pre at hc;have h4:(WTm.not (.lt (.lit (.int (n:Int))) (.len (.arg 0)))).holds [] {args:=[.list (ns.map .int)]}=true:=by
   have h4:=(holds_andW hc).1;rw[hn]at h4;exact h4
  have h5:=condW_of h4 (w_not (w_lt w_lit (w_len_list (w_arg rfl))));rw[List.length_map]at h5;refine Nat.le_of_not_lt fun q=>?_
  have q':(n:Int)<((ns.length:Nat):Int):=XT;first
   |(rw[decide_eq_true q']at h5;exact absurd h5 (XU))
   |(simp at h5;omega)
 cases LN with
 |cons w1 w2=>
  cases w2;cases w1 with
  |list ho Pk=>exact⟨_,_,ns,rfl,rfl,ho,qA ns _ Pk,hlen⟩
theorem Bd(l:OpenLaw)(args:List WData):l.row.toRowW.claim.post args (.bool true) args=true:=
 postW_of (r:=l.row.toRowW) (X:=(true==true))
  (show WShape.has [] (.bool true) .bool=true by first|rfl|decide|simp[WShape.has,WShape.arms,WShape.armsAll])
  (show(WTm.eq .res (.lit (.bool true))).value [] {args:=args,res:=some (.bool true),after:=args}=some (.bool (true==true))from w_eq_bool (w_res rfl) w_lit) rfl
theorem Zz{l:OpenLaw}{n:Nat}{q:Program}{loose:List Str}{XP:(Str→Option Value)→Heap→Prop}{YP:World→Heap→Prop}{d:DefRec}
  (hn:l.most=some n) (LP:d.params.defaults=[])
  (call:∀(w:World)(c_ bX:Shared)(mg mb:Str→Option Value)(fa:Addr)(o:Obj)(pm cd doc:Value)(a:Addr)(vs:List Value)(ns:List Int),
   Ground q loose [] XP w c_ mg mb bX.heap→YP w bX.heap→
   bX.heap.get? fa=some o→o.data= .func (docDef d.name d.params d.body d.scope pm cd doc)→bX.heap.CodeRec cd d.name→mg d.name=some (.ref fa)→
   bX.heap.get? a=some {cls:= .type "list",data:= .seq vs.toArray}→IntsAre vs ns→ns.length≤n→bX.gens=#[]→
   codeAny (model l.prog w) callerA (.call (.ref fa) ⟨[.ref a],[]⟩) (fun r s'=>r= .ok (.ret (.bool true))∧OldK bX.heap s'.heap∧s'.os=bX.os∧AllBare s'.gens) bX):
  WalkO q loose XP YP l.row.toRowW d [] (fun f vs=>PySem.call f vs):=by
 intro w c_ bX mg mb G Y fa o pm cd doc dV kV ho hd AV hD LQ hg args vals as E_ Ut WQ LN Ko;obtain rfl:dV= .none:=Dflts.none hD LP;obtain rfl:kV= .none:=Dflts.noKw hD;obtain⟨a,vs,ns,rfl,rfl,IK,hints,hlen⟩:=Bc hn E_ LN;refine enter_call (codeAny_mono (call w c_ bX mg mb fa o pm cd doc a vs ns G Y ho (fd_plain hd) AV LQ IK hints hlen hg) fun r s' hq=>?_);obtain⟨rfl,h2,h3,h4⟩:=hq;exact⟨.inl ⟨.bool true, .bool true,[],rfl,fun _=>rfl, .bool true,Bd l _,fun _=>⟨List.Pairwise.nil,fun _ hm=>(nomatch hm)⟩⟩,h2,h3,h4⟩
section
variable{prog:Program}{w:World}{A:Around}{E:Value→Shared→Prop}{s:Shared}{K:Frag}
def ledger(h:Heap)(L d:Addr):List (Addr×Obj):=(List.range h.objs.size).filterMap fun a=>if a=L∨a=d then none else(h.get? a).map fun o=>(a,o)
end
end RN
namespace L2
open PySem PySem.Spec PyProof.Rows
theorem um:∀{vs:List Value}{ns:List Int},IntsAre vs ns→Vals (ns.map V.int) vs
 | _,_, .nil=> .nil
 | _,_, .cons n t h=> .cons ⟨t,rfl⟩ (um h)
def IL(H:Hp):Prop:=∀b,H b=none∨∃o xs,H b=some (.qS o (.lst xs))
theorem CS{cm:Bool}{P:Program}{w:World}{K:PySem.W.Frag}{mg mb:Str→Option Value}{CX:Cw}{k:Nat}{fa a:Addr}{fd:FuncData}{x:Str}{sp:Sp}{bX:Shared}{vs:List Value}{ns:List Int}
  (KX:K.In bX.heap) (NG:bX.heap.Ns mainGlobals mg) (hb:bX.heap.Ns builtinsNs mb) (Uu:∀x:Str,x≠"__name__"→mb x=bootBuiltins x) (Pl:bX.heap.NoLimit) (hg:bX.gens=#[])
  (ha:bX.heap.get? a=some {cls:= .type "list",data:= .seq vs.toArray}) (hi:IntsAre vs ns) (hl:ns.length≤sizeLine) (hr:eC cm k callerA)
  (F:∀base:Heap,K.In base→base.Ns mainGlobals mg→aZ P w K mg base CX cm k fa fd [x] sp) (LR:∀(s:Shared)(u:Value),BindsTo s fd ⟨[u],[]⟩ [(x,u)])
  (Ey:∀H:Hp,IL H→gZ K H a (ns.map V.int)→sp [.ref a] H (fun v _=>v= .bl true) fun _ _ _=>False)
  (Pn:∀H e s',CX [] H bX (fun _ _ _=>False) e s'→False):
  codeAny (model P w) callerA (.call (.ref fa) ⟨[.ref a],[]⟩) (fun r s'=>r= .ok (.ret (.bool true))∧OldK bX.heap s'.heap∧s'.os=bX.os∧AllBare s'.gens) bX:=by
 have rv:=um hi;have Po:=hi.length;have core:∀H:Hp,IL H→gZ K H a (ns.map V.int)→kE P w H bX.heap→(∀b,H b≠none→b=a)→(H a≠none→K.lookup a=none)→
   codeAny (model P w) callerA (.call (.ref fa) ⟨[.ref a],[]⟩) (fun r s'=>r= .ok (.ret (.bool true))∧OldK bX.heap s'.heap∧s'.os=bX.os∧AllBare s'.gens) bX:=by
  intro H hO hS bR hA hK;have Z9:∀{b:Addr}{o:Obj},bX.heap.get? b=some o→H b=none→(uL bX.heap H).get? b=some o:=fun e n=>Ci e n
  have LC:∀{b:Addr}{o:Obj}{es:Array DictEntry}{ep:Nat},bX.heap.get? b=some o→o.data= .dict es ep→H b=none:=fun{b o es ep} e d=>by
   cases q:H b with
   |none=>rfl
   |some u=>
    have e':b=a:=hA b (by rw[q];simp);subst e';rw[ha]at e;cases e;have d':Data.seq vs.toArray _=Data.dict es ep:=d;cases d'
  have NH:∀{b:Addr}{m:Str→Option Value},bX.heap.Ns b m→(uL bX.heap H).Ns b m:=fun{b m} ⟨o,es,ep,e,d,r⟩=>⟨o,es,ep,Z9 e (LC e d),d,r⟩
  have RO:K.In (uL bX.heap H):=fun b o e=>Z9 (KX b o e) (by
   cases q:H b with
   |none=>rfl
   |some u=>
    have e':b=a:=hA b (by rw[q];simp);subst e';rw[hK (by rw[q];simp)]at e;cases e)
  have hM:Mod K mg (uL bX.heap H):=⟨RO,NH NG,⟨mb,NH hb,Uu⟩,let ⟨mc,h1,h2⟩:=Pl;⟨mc,NH h1,h2⟩⟩
  have e0:YE P w K mg (uL bX.heap H) callerA [] bX H:=⟨rfl,hM,fun b o e=>EK e,Nat.le_of_eq (AS _ _),trivial,fun b hb=>absurd (show b∈([]:List Addr)from hb) (XX),bR, .of_eq hg⟩
  refine codeAny_mono ((F _ RO (NH NG)).run callerA [] bX H ⟨[.ref a],[]⟩ [.ref a] [.ref a] _ _ hr e0 (LR bX (.ref a)) (.cons rfl .nil) (Ey H hO hS)) fun r s' h=>?_
  cases r with
  |error e=>exact(Pn H e s' h).elim
  |ok fl=>
   cases fl with
   |next=>exact False.elim h
   |brk=>exact False.elim h
   |cont=>exact False.elim h
   |ret u=>
    obtain⟨v,H',os,bare,un,Pp,r',q⟩:=h;have q':v= .bl true:=q;subst q';obtain rfl:u=Value.bool true:=r';refine⟨rfl,OldK.of_keep fun b o e=>?_,os,bare⟩;cases q:H b with
    |none=>exact un.keep b o e q (by intro z;exact absurd (show b∈([]:List Addr)from z) (XX)) (XX)
    |some u=>
     rcases hO b with z|⟨ob,xs,z⟩
     ·rw[q]at z;cases z
     ·have z2:=un.m4 b ob _ z;obtain⟨e1,_⟩:=bR b _ z;obtain⟨e2,_⟩:=Pp b _ z2;rw[e]at e1;cases e1;exact e2
 cases hk:K.lookup a with
 |some o=>
  have e:=KX a o hk;rw[ha]at e;cases e;refine core (fun _=>none) (fun _=> .inl rfl) (.inr ⟨_,vs.toArray,_,hk,rfl,rfl,rfl,by rw[List.size_toArray,Po];exact hl,by simpa using rv⟩) (fun b u z=>by have z':(none:Option HO)=some u:=z;cases z') (fun b z=>absurd rfl z) fun z=>absurd rfl z
 |none=>
  refine core (fun b=>if b=a then some (.qS {cls:= .type "list",data:= .seq vs.toArray} (.lst (ns.map V.int)))else none) (fun b=>?_) (.inl (.inr ⟨{cls:= .type "list",data:= .seq vs.toArray},if_pos rfl⟩)) (fun b u z=>?_) (fun b z=>?_) fun _=>hk
  ·by_cases hb:b=a
   ·exact .inr ⟨_,_,XH hb⟩
   ·exact .inl (XE hb)
  ·by_cases hb:b=a
   ·have z':=(XH hb).symm.trans z;cases z';subst hb;exact⟨ha,by rw[List.length_map];exact hl,vs,_,rv,ha⟩
   ·have z':=(XE hb).symm.trans z;cases z'
  ·by_cases hb:b=a
   ·exact hb
   ·exact absurd (XE hb) z
theorem Fb{cm:Bool}{l:PySem.W.OpenLaw}{n k:Nat}{q:Program}{loose:List Str}{XP:(Str→Option Value)→Heap→Prop}{YP:World→Heap→Prop}{d:DefRec}{K:Params→PySem.W.Frag}{CX:World→Cw}{sp:World→Sp}{x:Str}
  (hn:l.most=some n) (ub:n≤sizeLine) (LP:d.params.defaults=[]) (hr:eC cm k callerA)
  (hY:∀(w:World)(h:Heap),YP w h→(K w.params).In h)
  (F:∀(w:World)(mg:Str→Option Value)(fa:Addr)(h:Heap),(K w.params).In h→h.Ns mainGlobals mg→mg d.name=some (.ref fa)→
   ∃fd:FuncData,(∀(s:Shared)(u:Value),BindsTo s fd ⟨[u],[]⟩ [(x,u)])∧
    ∀base:Heap,(K w.params).In base→base.Ns mainGlobals mg→aZ l.prog w (K w.params) mg base (CX w) cm k fa fd [x] (sp w))
  (Ey:∀(w:World)(H:Hp)(a:Addr)(ns:List Int),ns.length≤n→IL H→gZ (K w.params) H a (ns.map V.int)→sp w [.ref a] H (fun v _=>v= .bl true) fun _ _ _=>False)
  (Pn:∀(w:World)(H:Hp)(s:Shared)(e:Value)(s':Shared),CX w [] H s (fun _ _ _=>False) e s'→False):
  PySem.W.WalkO q loose XP YP l.row.toRowW d [] (fun f vs=>PySem.call f vs):=by
 refine RN.Zz hn LP fun w c_ bX mg mb fa o pm cd doc a vs ns G Y ho hd AV LQ IK hints hlen hg=>?_
 have KX:=hY w _ Y;obtain⟨fd,hb,hF⟩:=F w mg fa _ KX G.T.g LQ;exact CS KX G.T.g G.T.b G.T.builtins G.T.nolimit hg IK hints (Nat.le_trans hlen ub) hr hF hb (fun H hO hS=>Ey w H a ns hlen hO hS) fun H e s'=>Pn w H bX e s'
def inClass(s:Stmt)(j:Nat):Stmt:=match s with
 | .ClassDef _ _ _ body _ _ _ _ _ _ _=>body.getD j (.Pass ⟨0,0,0,0⟩)
 | _=> .Pass ⟨0,0,0,0⟩
def eW(s:Stmt):Arguments:=match s with
 | .FunctionDef _ a _ _ _ _ _ _ _ _=>a
 | _=>{posonlyargs:=[],args:=[],vararg:=none,kwonlyargs:=[],kw_defaults:=[],kwarg:=none,defaults:=[]}
def d0(s:Stmt):List Stmt:=match s with
 | .FunctionDef _ _ b _ _ _ _ _ _ _=>b
 | _=>[]
def aq(s:Stmt):Scope:=match s with
 | .FunctionDef _ _ _ _ _ _ sc _ _ _=>sc
 | _=>{kind:= .function,names:=[],isGenerator:=false,isCoroutine:=false}
abbrev E0:XK:=fun _ _ _=>False
structure jy(K:PySem.W.Frag)(x qual:Str)(st:Stmt)(f:Addr)(fd:FuncData):Prop where
 ex:∃(oc:Value)(od:Option Addr)(kV doc pm:Value)(an:Option Addr)(cc ct:Value)(Y4:Array (Option Value)),
  fd=PySem.W.fnOf x qual (eW st) (d0 st) (aq st) .none kV doc pm an cc ct∧K.lookup f=some ⟨oc,od, .func fd,Y4⟩∧PySem.W.codeIn K cc qual=true
 kp:PySem.W.keepIn K (.ref f)=true
section
variable{P:Program}{w:World}{K:PySem.W.Frag}{mg:Str→Option Value}{base:Heap}
theorem jy.binds{x qual:Str}{st:Stmt}{f:Addr}{fd:FuncData}{ps:List Str}(F:jy K x qual st f fd)
  (h:∀(kV doc pm:Value)(an:Option Addr)(cc ct:Value)(us:List Value),us.length=ps.length→bindArgs (PySem.W.fnOf x qual (eW st) (d0 st) (aq st) .none kV doc pm an cc ct) ⟨us,[]⟩=pure (ps.zip us)):Binds K fd ps []:=by
 obtain⟨oc,od,kV,doc,pm,an,cc,ct,Y4,rfl,lk,AV⟩:=F.ex;exact .all (h kV doc pm an cc ct)
theorem CU{x qual:Str}{st:Stmt}{f:Addr}{oc:Value}{od an:Option Addr}{Y4:Array (Option Value)}{kV doc pm cc ct:Value}(l:K.lookup f=some ⟨oc,od, .func (PySem.W.fnOf x qual (eW st) (d0 st) (aq st) .none kV doc pm an cc ct),Y4⟩)
  (c:PySem.W.codeIn K cc qual=true) (k:PySem.W.keepIn K (.ref f)=true):jy K x qual st f (PySem.W.fnOf x qual (eW st) (d0 st) (aq st) .none kV doc pm an cc ct):=⟨⟨oc,od,kV,doc,pm,an,cc,ct,Y4,rfl,l,c⟩,k⟩
end
section
variable{X:Cx}
theorem pv(i:Nat){x:Str}{pos:Pos}(hN:X.N[i]?=some x:=by rfl)(hv:OL X.env.scope x:=by first|exact Or.inl rfl|exact Or.inr (Or.inl rfl)|exact Or.inr (Or.inr rfl))(hd:(x==("__debug__":Str))=false:=by decide)
  (AV:(x==("__classdict__":Str))=false:=by decide):PE X (.Name x pos) (HZ i):=H_ hN hv hd AV
end
theorem jU{A B:Prop}(h:B):if false=true then A else B:=by
 rw[XE Bool.false_ne_true];exact h
theorem kI{A B:Prop}(h:A):if true=true then A else B:=by
 rw[if_pos rfl];exact h
theorem bj{c A B:Prop}[Decidable c](h1:c→A)(h2:¬c→B):if c then A else B:=by
 by_cases h:c
 ·rw[XH h];exact h1 h
 ·rw[XE h];exact h2 h
def ax(H H':Hp):Prop:=∀b o,H b=some o→H' b=some o
theorem ax.refl(H:Hp):ax H H:=fun _ _ h=>h
theorem ax.trans{H H1 H2:Hp}(a:ax H H1)(b:ax H1 H2):ax H H2:=fun c o h=>b c o (a c o h)
theorem ax.free{H H':Hp}(e:ax H H'){l:Addr}(h:H' l=Option.none):H l=Option.none:=by
 cases q:H l with
 |none=>rfl
 |some o=>
  rw[e l o q]at h;cases h
theorem ax.seq{K:PySem.W.Frag}{H H':Hp}{a:Addr}{xs:List V}(e:ax H H')(h:gZ K H a xs):gZ K H' a xs:=by
 rcases h with(h|⟨o,h⟩)|h
 ·exact .inl (.inl (e _ _ h))
 ·exact .inl (.inr ⟨o,e _ _ h⟩)
 ·exact .inr h
section
variable{κ:Type}[DecidableEq κ]
theorem Z6{kvs:List (κ×V)}{k:κ}(h:bh kvs k=none):¬k∈kvs.map (·.1):=by
 intro m;obtain⟨p,hp,e⟩:=List.mem_map.mp m;have q:(kvs.any fun kv=>decide (kv.1=k))=true:=List.any_eq_true.mpr ⟨p,hp,decide_eq_true e⟩;rw[gM,h]at q;exact absurd q XN
theorem Z1{kvs:List (κ×V)}{k:κ}{v:V}(h:bh kvs k=some v):k∈kvs.map (·.1):=by
 have q:(kvs.any fun kv=>decide (kv.1=k))=true:=by
  rw[gM,h];all_goals rfl
 obtain⟨p,hp,e⟩:=List.any_eq_true.mp q;exact List.mem_map.mpr ⟨p,hp,of_decide_eq_true e⟩
end
end L2
namespace L2
open PySem PySem.Spec PyProof.Rows PySem.W
def de(P:Program)(w:World):Cw:=fun outer H s E e s'=>
 ∃(ea:Addr)(cls a0:Value)(B:Heap)(H':Hp),e= .ref ea∧s'.os=s.os∧AllBare s'.gens∧Heap.FlyingW B outer ea cls a0 s'.heap∧
  Un (mZ outer) [] H H' s.heap s'.heap∧kE P w H' B∧(∀b o,s.heap.get? b=some o→H b=none→b∉mZ outer→B.get? b=some o)∧(∀b o,s.heap.get? b=some o→b∉mZ outer→∃o',B.get? b=some o')∧E cls none H'
theorem aR{P:Program}{w:World}{X:Cx}:Passes (de P w) X (fun _=>E0):=fun _ _ _ _ _ _ _ ⟨_,_,_,_,_,_,_,_,_,_,_,_,_,h⟩=>h.elim
structure NI(X:Cx)(E:St→XK):Prop where
 raise:∀(pins:List (Addr×Obj))(σ:St)(H:Hp)(s:Shared)(h':Heap)(e:Addr)(cls:Value)(args:List Value),Inv X pins σ H s→Heap.MadeExcOf s.heap h' e cls args→E σ cls none H→X.xe (.ref e) {s with heap:=h'}
 pass:Passes (de X.prog X.w) X E
 own:PassesOwn (model X.prog X.w) X.A X.env X.xe
theorem kE.hide{P:Program}{w:World}{H:Hp}{h:Heap}{as:List Addr}(ok:kE P w H h)(hf:∀b∈as,H b=none):kE P w H (hideAll h as):=fun a o e=>
 (ok a o e).uK (fun b u hb q=>hideAll_get _ q fun hm=>by
  rcases hb with rfl|hb
  ·rw[hf _ hm]at e;cases e
  ·rw[hf _ hm]at hb;cases hb) (fun b q=>q) fun b xs q=>q
section
variable{P:Program}{w:World}{K:PySem.W.Frag}{mg:Str→Option Value}{base:Heap}{N:List Str}{qual:Str}{scope:Scope}{f:Addr}{cd:Value}{A:Around}{outer:List Env}{s:Shared}{H:Hp}{E:XK}{cm:Bool}
theorem Zl{P:Program}{w:World}{H:Hp}{h:Heap}{a:Addr}{o:HO}(x:cK P w H h a o):∃q,h.get? a=some q:=by
 cases o with
 |lst xs=>obtain⟨_,its,n,_,e⟩:=x;exact⟨_,e⟩
 |tup xs=>obtain⟨_,its,_,o,e,_⟩:=x;exact⟨_,e⟩
 |dK kvs=>obtain⟨_,_,vs,_,o,es,ep,e,_⟩:=x;exact⟨_,e⟩
 |dT kvs=>obtain⟨_,_,xs,_,o,es,ep,e,_⟩:=x;exact⟨_,e⟩
 |set S n=>obtain⟨o,es,ep,t,e,_⟩:=x;exact⟨_,e⟩
 |ins C dx fs=>obtain⟨_,_,_,e,_⟩:=x;exact⟨_,e⟩
 |own y=>exact x
 |xd fs=>obtain⟨mA,⟨o,es,ep,e,_⟩,_⟩:=x;exact⟨_,e⟩
 |met f y=>exact⟨_,x⟩
 |Nu lo hi=>obtain⟨t,u,v,e⟩:=x;exact⟨_,e⟩
 |qS o u=>exact⟨_,x.1⟩
 |EJ ps=>exact⟨_,x⟩
 |ext φ=>exact x.2.1
theorem Yl:NI (Y8 (de P w) cm P w K mg base N qual scope f cd A outer s H E) (fun _=>E):=by
 refine⟨?_,?_,PassesOwn.leaving⟩
 ·intro pins σ H1 s1 h' e cls args I hx hE;have Pq:(A.deeper (envOfC qual scope s.heap.objs.size f cd)).frames=some (envOfC qual scope s.heap.objs.size f cd::outer):=I.ok.frames;have ua:s1.heap.FunFrames base (envOfC qual scope s.heap.objs.size f cd::outer):=I.stack;have m3:∀env∈(envOfC qual scope s.heap.objs.size f cd::outer),∀b,env.frame=some b→b∈(envOfC qual scope s.heap.objs.size f cd::outer).filterMap (·.frame):=fun env he b hb=>List.mem_filterMap.mpr ⟨env,he,hb⟩
  have YO:∀b∈(envOfC qual scope s.heap.objs.size f cd::outer).filterMap (·.frame),H1 b=none:=I.uM;show wpAny (model P w) (A.deeper (envOfC qual scope s.heap.objs.size f cd)) (leaving (envOfC qual scope s.heap.objs.size f cd) (.ref e)) (fun _ uP=>de P w outer H s E (.ref e) uP) (fun e' uP=>de P w outer H s E e' uP) {s1 with heap:=h'};have YF:∀b o,s.heap.get? b=some o→b∉mZ outer→b∉(envOfC qual scope s.heap.objs.size f cd::outer).filterMap (·.frame):=fun b o q hb hm=>by
   obtain⟨env,he,hf⟩:=List.mem_filterMap.mp hm;rcases List.mem_cons.mp he with rfl|he
   ·have z:s.heap.objs.size=b:=Option.some.inj hf;exact absurd (Heap.lt_size q) (by rw[z];exact Nat.lt_irrefl _)
   ·exact hb (List.mem_filterMap.mpr ⟨env,he,hf⟩)
  refine wpAny_leaves_madeW (s:={s1 with heap:=h'}) (h:=s1.heap) (base:=hideAll s1.heap ((envOfC qual scope s.heap.objs.size f cd::outer).filterMap (·.frame))) (L:=s.heap.objs.size) Pq rfl (fun b o q=>of_hideAll _ q) (funFrames_hide ua m3) hx fun h2 t x1 x2 x3 x4=>?_
  have bs:Un (mZ outer) [] H H1 s.heap s1.heap:=I.base;have kB:∀b o,s.heap.get? b=some o→H b=none→b∉mZ outer→(hideAll s1.heap ((envOfC qual scope s.heap.objs.size f cd::outer).filterMap (·.frame))).get? b=some o:=fun b o q hn hb=>
   hideAll_get _ (bs.keep b o q hn hb XN) (YF b o q hb)
  have hB:kE P w H1 (hideAll s1.heap ((envOfC qual scope s.heap.objs.size f cd::outer).filterMap (·.frame))):=I.bR.hide YO;refine⟨e,cls, .ref t,_,H1,rfl,I.os,I.bare,x1,?_,hB,kB,fun b o q hb=>?_,hE⟩
  rotate_left
  ·obtain⟨o',e1⟩:=bs.there b o q XN;exact⟨o',hideAll_get _ e1 (YF b o q hb)⟩
  refine⟨fun b o q hn hb _=>x1.1 b o (kB b o q hn hb),fun b o q hn hb _=>?_,fun b o q hn _=>bs.free b o q hn XN,fun b o q _=>?_,bs.cF,bs.m4,bs.qz⟩
  ·obtain⟨sl,e1⟩:=bs.slot b o q hn hb XN;have GO:s1.heap.FunFrames base outer:=ua.2.2;obtain⟨_,o2,e2,Fe⟩:=GO.mem hb;rw[e1]at e2;cases e2;obtain⟨X6,e3⟩:=x4 b _ (hx.keeps _ _ e1) Fe;exact⟨X6,e3⟩
  ·cases q1:H1 b with
   |some u=>
    obtain⟨oo,z⟩:=Zl (hB b u q1);exact⟨oo,x1.1 b oo z⟩
   |none=>
    cases q0:H b with
    |none=>
     by_cases hb:b∈mZ outer
     ·obtain⟨sl,e1⟩:=bs.slot b o q q0 hb XN;have GO:s1.heap.FunFrames base outer:=ua.2.2;obtain⟨_,o2,e2,Fe⟩:=GO.mem hb;rw[e1]at e2;cases e2;obtain⟨X6,e3⟩:=x4 b _ (hx.keeps _ _ e1) Fe;exact⟨_,e3⟩
     ·exact⟨o,x1.1 b o (kB b o q q0 hb)⟩
    |some u=>
     obtain⟨o',e1⟩:=bs.there b o q XN;by_cases hb:b∈mZ outer
     ·have GO:s1.heap.FunFrames base outer:=ua.2.2;obtain⟨_,o2,e2,Fe⟩:=GO.mem hb;obtain⟨X6,e3⟩:=x4 b _ (hx.keeps _ _ e2) Fe;exact⟨_,e3⟩
     ·exact⟨o',x1.1 b o' (hideAll_get _ e1 (YF b o q hb))⟩
 ·rintro pins σ H1 s1 e s2 I ⟨ea,cls,a0,B,H',rfl,os,bare,NJ,un,hB,kB,tB,hE⟩;have Pq:(A.deeper (envOfC qual scope s.heap.objs.size f cd)).frames=some (envOfC qual scope s.heap.objs.size f cd::outer):=I.ok.frames;show wpAny (model P w) (A.deeper (envOfC qual scope s.heap.objs.size f cd)) (leaving (envOfC qual scope s.heap.objs.size f cd) (.ref ea)) (fun _ uP=>de P w outer H s E (.ref ea) uP) (fun e' uP=>de P w outer H s E e' uP) s2;have NJ:Heap.FlyingW B (envOfC qual scope s.heap.objs.size f cd::outer) ea cls a0 s2.heap:=NJ;have un:Un (mZ (envOfC qual scope s.heap.objs.size f cd::outer)) [] H1 H' s1.heap s2.heap:=un;have kB:∀b o,s1.heap.get? b=some o→H1 b=none→b∉mZ (envOfC qual scope s.heap.objs.size f cd::outer)→B.get? b=some o:=kB;have YF:∀b o,s.heap.get? b=some o→b∉mZ outer→b∉mZ (envOfC qual scope s.heap.objs.size f cd::outer):=fun b o q hb hm=>by
   obtain⟨env,he,hf⟩:=List.mem_filterMap.mp hm;rcases List.mem_cons.mp he with rfl|he
   ·have z:s.heap.objs.size=b:=Option.some.inj hf;exact absurd (Heap.lt_size q) (by rw[z];exact Nat.lt_irrefl _)
   ·exact hb (List.mem_filterMap.mpr ⟨env,he,hf⟩)
  have Pt:∀b,b∈mZ outer→b∈mZ (envOfC qual scope s.heap.objs.size f cd::outer):=fun b hb=>by
   obtain⟨env,he,hf⟩:=List.mem_filterMap.mp hb;exact List.mem_filterMap.mpr ⟨env,List.mem_cons_of_mem _ he,hf⟩
  have bs:Un (mZ outer) [] H H1 s.heap s1.heap:=I.base;refine wpAny_leaves_onW (L:=s.heap.objs.size) Pq rfl NJ fun h2 x1 x4=>?_
  have RP:∀b o,s.heap.get? b=some o→H b=none→b∉mZ outer→B.get? b=some o:=fun b o q hn hb=>kB b o (bs.keep b o q hn hb XN) (bs.free b o q hn XN) (YF b o q hb)
  have GO:s2.heap.FunFrames B outer:=NJ.2.2.1.2.2;refine⟨ea,cls,a0,B,H',rfl,os.trans I.os,bare,x1,?_,hB,RP,fun b o q hb=>?_,hE⟩
  rotate_left
  ·obtain⟨o',e1⟩:=bs.there b o q XN;exact tB b o' e1 (YF b o q hb)
  refine⟨fun b o q hn hb _=>x1.1 b o (RP b o q hn hb),fun b o q hn hb _=>?_,fun b o q hn _=>?_,fun b o q _=>?_,fun b xs q=>un.cF b xs (bs.cF b xs q),fun b o u q=>un.m4 b o u (bs.m4 b o u q),fun b ps q=>?_⟩
  ·obtain⟨sl,e1⟩:=bs.slot b o q hn hb XN;obtain⟨WR,e2⟩:=un.slot b _ e1 (bs.free b o q hn XN) (Pt b hb) (XX);obtain⟨_,o2,e3,Fe⟩:=GO.mem hb;rw[e2]at e3;cases e3;obtain⟨X6,e4⟩:=x4 b _ e2 Fe;exact⟨X6,e4⟩
  ·by_cases hb:b∈mZ outer
   ·obtain⟨sl,e1⟩:=bs.slot b o q hn hb XN;exact un.free b _ e1 (bs.free b o q hn XN) (XX)
   ·exact un.free b o (bs.keep b o q hn hb XN) (bs.free b o q hn XN) (XX)
  ·obtain⟨o',e1⟩:=bs.there b o q XN;obtain⟨o2,e2⟩:=un.there b o' e1 XN;by_cases hb:b∈mZ outer
   ·obtain⟨_,o3,e3,Fe⟩:=GO.mem hb;obtain⟨X6,e4⟩:=x4 b _ e3 Fe;exact⟨_,e4⟩
   ·obtain⟨o3,e3⟩:=tB b o' e1 (YF b o q hb);exact⟨o3,x1.1 b o3 e3⟩
  ·obtain⟨more,z⟩:=bs.qz b ps q;obtain⟨LS,z2⟩:=un.qz b _ z;exact⟨more++LS,by rw[z2,Array.append_assoc]⟩
end
end L2
namespace L2
open PySem PySem.Spec PyProof.Rows PySem.W PySem.Calls Builtin Builtin.ObjectAttr Builtin.Getset_descriptor
section
variable{prog:Program}{w:World}{A:Around}{E:Value→Shared→Prop}{K:Frag}{x C:Addr}{o:Obj}{hh:Heap}{g:Array GenState}{d:Drawn}{t:Nat}{os:OsState}
end
structure LU(K:Frag)(C:Addr):Prop where
 ex:excIn K C [.type "ValueError", .type "Exception", .type "BaseException", .type "object"] "ValueError.__new__"=true
 cl:findIn K (.ref C) "__class__"=some (some (.builtin "object.__class__"))
 ob:mroIn K C (.type "object")=some true
 be:mroIn K C (.type "BaseException")=some true
 ga:findIn K (.ref C) "__getattribute__"=some (some (.builtin "BaseException.__getattribute__"))
 gn:findIn K (.ref C) "__getattr__"=some none
 tu:instIn K (.ref C) (.type "tuple")=some false
 kp:keepIn K (.ref C)=true
end L2
namespace L2
open PySem PySem.Spec PyProof.Rows PySem.W PySem.Calls
theorem Ff{K:Frag}{h:Heap}{C:Addr}{RQ:List Value}{newId:String}(X:K.In h)(q:excIn K C RQ newId=true):
  ∃bm N nm qn bs hdct sn sub ab col dd k0 k1 k2 k3 k5 mN,h.get? C=some (excClassObj nm qn C N bs bm hdct sn sub ab col dd k0 k1 k2 k3 k5 newId)∧h.Ns N mN∧mN "__init__"=none∧OwnTail h RQ bm:=by
 unfold excIn at q;split at q
 ·rename_i dd cd sl ho
  split at q
  ·rename_i C' bm k0 k1 k2 k3 n k5 hm hs
   simp only[Bool.and_eq_true,beq_iff_eq,Bool.not_eq_true']at q;obtain⟨⟨⟨⟨⟨rfl,rfl⟩,LV⟩,ht⟩,bR⟩,NK⟩:=q;obtain⟨nm,bs,mro,ns,qn,hd,sn,sub,ab,col,del⟩:=cd;dsimp only at hm LV bR NK;subst hm LV;have Pu:sl=#[k0,k1,k2,k3,some (.builtin n),k5]:=by
    obtain⟨l⟩:=sl;simp only at hs;rw[hs]
   subst Pu;exact⟨bm,ns,nm,qn,bs,hd,sn,sub,ab,col,dd,k0,k1,k2,k3,k5,_,X _ _ ho, .of_isNs (isNs_of_in X bR),nsMap_none_of_in X bR NK,tail_of_in X ht⟩
  ·cases q
 ·cases q
section
variable{X:Cx}{x:Str}{np dX pos:Pos}{e:Expr}{es:List Expr}{t:TA}{C:Addr}{E:St→XK}
def IM(C:Addr)(E:St→XK)(t:TA):TS:=fun _ σ H=>t σ H fun vs H1=>vs.length≤sizeLine∧E σ (.ref C) none H1
theorem iF(hX:NI X E)(hc:X.calm=true)(hg:Gl X x)(hm:X.mg x=some (.ref C))(c:LU X.K C)(ha:PA X (e::es) t)(uO:(x==("__debug__":Str))=false:=by decide)
  (he:starEach (e::es) X.env=(false,eval e X.env)::starEach es X.env:=by rfl) (nh:(backTo dX (starEach es X.env)).any (·.1)=false:=by rfl):
  PS X (.Raise (some (.Call (.Name x np) (e::es) [] dX)) none pos) (IM C E t):=by
 intro pins s σ H D I h;obtain⟨bm,N,nm,qn,bs,hdct,sn,sub,ab,col,dd,k0,k1,k2,k3,k5,mN,hC,hN,NK,T⟩:=Ff I.ok.mod.Ki c.ex;refine wpAny_Raise_call_subT (C:=C) (nm:=nm) (q:=qn) (N:=N) (bs:=bs) (bm:=bm) (hdct:=hdct) (sn:=sn) (sub:=sub) (ab:=ab) (col:=col) (dd:=dd) (k0:=k0) (k1:=k1) (k2:=k2) (k3:=k3) (k5:=k5)
  F.excBase_ValueError (mN:=mN) (T.hasType F.excBase_ValueError.hasBase) (I.ok.hd hc) (by rw[he];show(false||(backTo dX (starEach es X.env)).any (·.1))=false;rw[nh];rfl) NK (m6 I hg hm ⟨rfl,?_⟩ uO)
 have hq:=cy (ha dX pins s σ H _ I h) fun us s2 ⟨vs,H2,I2,r2,q2⟩=>show us.length≤sizeLine∧(∀b o,X.base.get? b=some o→s2.heap.get? b=some o)∧∀h' e,Heap.MadeExcOf s2.heap h' e (.ref C) us→X.xe (.ref e) {s2 with heap:=h'}from
  ⟨by rw[←r2.length];exact q2.1,I2.bk,fun h' e hx=>hX.raise pins σ H2 s2 h' e (.ref C) us I2 hx q2.2⟩
 rw[he]at hq⊢;exact evalArgs_plain (wpAny_mono hq (fun vs s2 h2=>⟨rfl,h2.1,h2.2.1 _ _ hC,hN.keeps h2.2.1,T.keeps h2.2.1,h2.2.2⟩) fun _ _ y=>y)
end
section
variable{X:Cx}{e v1 v2:Expr}{es:List Expr}{te:TE}{pos:Pos}
def Px(te:TE):TE:=fun σ H Q=>te σ H fun x H1=>(∃y,x= .str y∧y.length≤sizeLine∧Q (.str y) H1)∨∃i:Int,x= .int i∧i.natAbs.log2<1920∧Q (.str (toString i)) H1
theorem pz(h:PE X e te):PE X (.FormattedValue e (-1) none pos) (Px te):=by
 intro pins s σ H Q I hq;refine FormattedValue_plain (cy (h pins s σ H _ I hq) fun u s1 ⟨x,H1,I1,r1,q1⟩=>?_);rcases q1 with⟨y,rfl,hy,q⟩|⟨i,rfl,hi,q⟩
 ·obtain⟨t,rfl⟩:=r1;exact formatField_str (fun t' tk=>⟨.str y,H1,I1.tok _,⟨_,rfl⟩,q⟩) hy
 ·obtain⟨t,rfl⟩:=r1;exact formatField_int_small hi ⟨.str (toString i),H1,I1.tok _,⟨_,rfl⟩,q⟩
abbrev TJ:=Str→TE
def PJ(X:Cx)(es:List Expr)(t:TJ):Prop:=
 ∀(acc:Str)(pins:List (Addr×Obj))(s:Shared)(σ:St)(H:Hp)(Q:VK),Inv X pins σ H s→t acc σ H Q→wpAny (model X.prog X.w) X.A (joinParts acc (evalEach es X.env)) (EP X pins σ Q) X.xe s
def LW:TJ:=fun acc _ H Q=>acc.length≤sizeLine∧Q (.str acc) H
def IP(te:TE)(t:TJ):TJ:=fun acc σ H Q=>te σ H fun x H1=>∃y,x= .str y∧(acc++y).length≤sizeLine∧t (acc++y) σ H1 Q
theorem uZ:PJ X [] LW:=fun acc _ s σ H Q I h=>joinParts_nil ⟨.str acc,H,I.tok _,⟨_,rfl⟩,h.2⟩ h.1
theorem eZ{t:TJ}(h1:PE X e te)(h2:PJ X es t):PJ X (e::es) (IP te t):=by
 intro acc pins s σ H Q I h;refine joinParts_cons (cy (h1 pins s σ H _ I h) fun u s1 ⟨x,H1,I1,r1,y,e,hl,q⟩=>?_);subst e;obtain⟨tk,rfl⟩:=r1;exact⟨hl,h2 _ pins s1 σ H1 Q I1 q⟩
theorem lA{t:TJ}(h:PJ X (v1::v2::es) t):PE X (.JoinedStr (v1::v2::es) pos) (t Str.empty):=fun pins s σ H Q I hq=>JoinedStr_many (h Str.empty pins s σ H Q I hq)
end
abbrev Cx.LX(X:Cx)(e:Addr):Cx:={X with A:=X.A.mark (some (.ref e)),calm:=false,xe:=fun _ _=>False}
section
variable{X:Cx}{pins:List (Addr×Obj)}{σ:St}{H:Hp}{s:Shared}{ea C:Addr}{B:Heap}{a0:Value}
end
abbrev TH:=Addr→TS
def Ends.drop(D:Ends)(i:Nat):Ends:={nx:=fun σ H=>D.nx (σ.set i none) H,rt:=D.rt,bk:=fun σ H=>D.bk (σ.set i none) H,ct:=fun σ H=>D.ct (σ.set i none) H}
section
variable{X:Cx}{x n:Str}{np pos:Pos}{b0:Stmt}{LX:List Stmt}{rest:List ExceptHandler}{ts:TS}{tr:TH}{Dc:Addr}{i:Nat}
end
def fv(env:Env):List (Str×NameKind)→List (Str×Addr)→List (Str×Addr)
 |[],acc=>acc
 |(n,k)::r,acc=>if k= .free then fv env r ((n,(env.cells.lookup n).getD 0)::acc)else fv env r acc
theorem u0{env:Env}{scope:Scope}(h:∀x∈scope.names,x.2= .free→∃c,env.cells.lookup x.1=some c):closureFor scope env=pure (fv env scope.names []):=by
 unfold closureFor
 suffices H:∀(l:List (Str×NameKind))(acc:List (Str×Addr)),(∀x∈l,x.2= .free→∃c,env.cells.lookup x.1=some c)→
   (forIn l acc fun(x:Str×NameKind)(cs:List (Str×Addr))=>if (x.2==NameKind.free)=true then do let c←cellOf env x.1;pure (ForInStep.yield ((x.1,c)::cs))else pure (ForInStep.yield cs):Sem (List (Str×Addr)))=pure (fv env l acc) by
  have:=H scope.names [] h;simpa using this
 intro l
 induction l with
 |nil=>intro acc _;rfl
 |cons x r ih=>
  intro acc hl;obtain⟨n,k⟩:=x;rw[List.forIn_cons];by_cases hk:k= .free
  ·subst hk;obtain⟨c,hc⟩:=hl (n, .free) List.mem_cons_self rfl;have HY:env.cells.lookup n=some c:=hc;simp only[beq_self_eq_true,if_true,cellOf,HY,fv,Option.getD_some];show(pure _>>=_)=_;rw[pure_bind];exact ih _ fun y hy=>hl y (List.mem_cons_of_mem _ hy)
  ·have hb:(k==NameKind.free)=false:=by simpa using hk
   simp only[hb,Bool.false_eq_true,if_false,fv,hk];rw[pure_bind];exact ih _ fun y hy=>hl y (List.mem_cons_of_mem _ hy)
theorem jz{env:Env}{x:Str}{c:Addr}:∀{l:List (Str×NameKind)}{acc:List (Str×Addr)},(∀y∈l,y.2= .free→∃c,env.cells.lookup y.1=some c)→
  (∀y d,acc.lookup y=some d→env.cells.lookup y=some d)→(fv env l acc).lookup x=some c→env.cells.lookup x=some c
 |[],acc,_,ha,h=>ha x c h
 |(n,k)::r,acc,hl,ha,h=>by
  unfold fv at h;have hr:∀y∈r,y.2= .free→∃c,env.cells.lookup y.1=some c:=fun y hy=>hl y (List.mem_cons_of_mem _ hy)
  split at h
  ·rename_i hk
   obtain⟨d,hd⟩:=hl (n,k) List.mem_cons_self hk;refine jz hr (fun y e he=>?_) h;rw[List.lookup_cons]at he;split at he
   ·rename_i q
    have q':y=n:=by simpa using q
    subst q';have t9:env.cells.lookup y=some d:=hd;rw[t9,Option.getD_some]at he;cases he;exact t9
   ·exact ha y e he
  ·exact jz hr ha h
theorem nq{env:Env}{x:Str}:∀{l:List (Str×NameKind)}{acc:List (Str×Addr)},((x,NameKind.free)∈l∨∃c,acc.lookup x=some c)→∃c,(fv env l acc).lookup x=some c
 |[],acc,h=>by
  rcases h with h|h
  ·simp at h
  ·exact h
 |(n,k)::r,acc,h=>by
  unfold fv;split
  ·rename_i hk
   refine nq ?_;rcases h with h|⟨c,h⟩
   ·rcases List.mem_cons.mp h with e|e
    ·injection e with e1 e2;subst e1;exact .inr ⟨(env.cells.lookup x).getD 0,by simp[List.lookup_cons]⟩
    ·exact .inl e
   ·by_cases q:x=n
    ·subst q;exact .inr ⟨(env.cells.lookup x).getD 0,by simp[List.lookup_cons]⟩
    ·refine .inr ⟨c,?_⟩;rw[List.lookup_cons];have:(x==n)=false:=by simpa using q
     rw[this];exact h
  ·rename_i hk
   refine nq ?_;rcases h with h|h
   ·rcases List.mem_cons.mp h with e|e
    ·injection e with e1 e2;exact absurd e2.symm hk
    ·exact .inl e
   ·exact .inr h
theorem nr{env:Env}{x:Str}:∀{names:List (Str×NameKind)},names.lookup x=some .free→
  (names.map fun(n,k)=>if (k==NameKind.free&&env.scope.kind== .function&&env.kindOf n==some .cell)then(n,NameKind.cell)else(n,k)).lookup x=some .cell∨
  (names.map fun(n,k)=>if (k==NameKind.free&&env.scope.kind== .function&&env.kindOf n==some .cell)then(n,NameKind.cell)else(n,k)).lookup x=some .free
 |[],h=>by simp at h
 |(n,k)::r,h=>by
  have ih:=@nr env x r;show List.lookup x ((if (k==NameKind.free&&env.scope.kind== .function&&env.kindOf n==some .cell)=true then(n,NameKind.cell)else(n,k))::_)=_∨List.lookup x ((if (k==NameKind.free&&env.scope.kind== .function&&env.kindOf n==some .cell)=true then(n,NameKind.cell)else(n,k))::_)=_;rw[List.lookup_cons]at h;by_cases hc:(k==NameKind.free&&env.scope.kind== .function&&env.kindOf n==some .cell)=true
  ·rw[XH hc,List.lookup_cons];cases hx:x==n with
   |true=>exact .inl rfl
   |false=>rw[hx]at h;exact ih h
  ·rw[XE hc,List.lookup_cons];cases hx:x==n with
   |true=>rw[hx]at h;exact .inr h
   |false=>rw[hx]at h;exact ih h
theorem ny{env:Env}{x:Str}:∀{names:List (Str×NameKind)},(∀y∈names,y.2≠ .cell)→
  ((names.map fun(n,k)=>if (k==NameKind.free&&env.scope.kind== .function&&env.kindOf n==some .cell)then(n,NameKind.cell)else(n,k)).lookup x=some .cell∨
  (names.map fun(n,k)=>if (k==NameKind.free&&env.scope.kind== .function&&env.kindOf n==some .cell)then(n,NameKind.cell)else(n,k)).lookup x=some .free)→(x,NameKind.free)∈names
 |[],_,h=>by simp at h
 |(n,k)::r,hc,h=>by
  have ih:=@ny env x r fun y hy=>hc y (List.mem_cons_of_mem _ hy)
  have h2:List.lookup x ((if (k==NameKind.free&&env.scope.kind== .function&&env.kindOf n==some .cell)=true then(n,NameKind.cell)else(n,k))::_)=_∨List.lookup x ((if (k==NameKind.free&&env.scope.kind== .function&&env.kindOf n==some .cell)=true then(n,NameKind.cell)else(n,k))::_)=_:=h;clear h;by_cases hq:(k==NameKind.free&&env.scope.kind== .function&&env.kindOf n==some .cell)=true
  ·rw[XH hq,List.lookup_cons]at h2;cases hx:x==n with
   |true=>
    have e:x=n:=by simpa using hx
    subst e;have hk:k= .free:=by
     rw[Bool.and_eq_true,Bool.and_eq_true]at hq;simpa using hq.1.1
    subst hk;exact List.mem_cons_self
   |false=>rw[hx]at h2;exact List.mem_cons_of_mem _ (ih h2)
  ·rw[XE hq,List.lookup_cons]at h2;cases hx:x==n with
   |true=>
    rw[hx]at h2;have e:x=n:=by simpa using hx
    subst e;rcases h2 with h|h
    ·have h':some k=some NameKind.cell:=h;exact absurd (XM h') (hc (x,k) List.mem_cons_self)
    ·have h':some k=some NameKind.free:=h;rw[XM h'];exact List.mem_cons_self
   |false=>rw[hx]at h2;exact List.mem_cons_of_mem _ (ih h2)
def fL(X:Cx)(scope:Scope)(N:List Str)(c_:Shared)(eD:Hp)(C:Addr)(fp:List Addr)(pn:List (Addr×Obj)):Cx:=
 {X with N:=N,c_:=c_,eD:=eD,env:=compEnvC scope (fv X.env scope.names []) C X.env,outer:=X.stack,ex:=fp,fn:=fun _=>false,pn:=pn,xe:=fun _ _=>False}
structure br(N:List Str)(sc:Scope)(scope:Scope)(ls:List Str)(js:List Nat)(cs:List Str):Prop where
 kind:scope.kind= .function
 GP:∀x∈scope.names,x.2≠ .cell
 names:∀x∈scope.names,x.2= .local→scope.names.lookup x.1=some .local
 loc:∀x∈ls,scope.names.lookup x=some .local
 at_:cs=js.filterMap (N[·]?)
 len:cs.length=js.length
 Py:∀x∈cs,scope.names.lookup x=some .free∧(sc.names.lookup x=some .cell∨sc.names.lookup x=some .free)
 free:∀x∈scope.names,x.2= .free→(sc.names.lookup x.1=some .cell∨sc.names.lookup x.1=some .free)
 nd:(ls++cs).Nodup
section
variable{X:Cx}{pins:List (Addr×Obj)}{σ:St}{H:Hp}{s:Shared}{scope:Scope}{ls cs:List Str}{js:List Nat}{fp:List Addr}
theorem br.has(S:br X.N X.env.scope scope ls js cs)(ok:X.Ok):∀x∈scope.names,x.2= .free→∃c,X.env.cells.lookup x.1=some c:=fun x hx hf=>ok.has x.1 (S.free x hx hf)
def kJ(ls:List Str)(js:List Nat)(σ:St):St:=ls.map (fun _=>none)++js.map fun j=>(σ[j]?).join
theorem Fg(S:br X.N X.env.scope scope ls js cs)(I:Inv X pins σ H s)(hf:∀b∈fp,gS X pins H b)(hl:∀b∈fp,b<s.heap.objs.size):(fL X scope (ls++cs) s H s.heap.objs.size fp (X.pn++pins)).Ok:=by
 have rC:∀{x:Str}{c:Addr},(fv X.env scope.names []).lookup x=some c→X.env.cells.lookup x=some c:=fun{x c} h=>jz (S.has I.ok) (fun y d h=>by simp at h) h
 refine⟨I.ok.mod,S.kind,I.ok.glob,I.ok.blt,Nat.le_refl _,fun x y c h1 h2=>I.ok.inj x y c (rC h1) (rC h2),fun x h=>nq (.inl (ny S.GP h)),(fun x c h=>Bool.noConfusion (show false=true from h)),I.ok.hd,I.ok.frames, .inl rfl,fun b hb=>⟨Nat.ne_of_lt (hl b hb),fun x c h=>(hf b hb).2.2.2.2.1 x c (rC h)⟩,
  I.bs,Nat.le_trans I.ok.HU I.sz,fun b o e hb=>?_,fun b hb hm=>?_,I.stack,I.uM⟩
 ·rcases(hf b hb).2.2.2.1 with z|z
  ·exact I.ok.HV b o e z
  ·exact absurd (Nat.lt_of_lt_of_le (Heap.lt_size e) I.ok.HU) (Nat.not_lt.mpr z)
 ·rcases List.mem_cons.mp (I.rj b hm)with z|z
  ·exact(hf b hb).2.1 z
  ·exact(hf b hb).2.2.1 z
theorem CV{h1:Heap}{m:Str→Option Value}(S:br X.N X.env.scope scope ls js cs)(I:Inv X pins σ H s)(hf:∀b∈fp,gS X pins H b)(hl:∀b∈fp,b<s.heap.objs.size)
  (hn:h1.Ns s.heap.objs.size m) (hk:∀b o,s.heap.get? b=some o→h1.get? b=some o):
  Inv (fL X scope (ls++cs) s H s.heap.objs.size fp (X.pn++pins)) [] (kJ ls js σ) H {s with heap:=h1}:=by
 have rC:∀{x:Str}{c:Addr},(fv X.env scope.names []).lookup x=some c→X.env.cells.lookup x=some c:=fun{x c} h=>jz (S.has I.ok) (fun y d h=>by simp at h) h
 have len:(kJ ls js σ).length=(ls++cs).length:=by
  unfold kJ;rw[List.length_append,List.length_append,List.length_map,List.length_map,S.len]
 refine⟨Fg S I hf hl,rfl,I.bare,Un.kept hk,⟨m,hn,fun i x v e1 e2 e3=>?_⟩,fun x c e=>?_,I.bR.fresh (Nat.le_refl _),fun x c e=>I.lZ x c (rC e),fun p hp=>?_,I.bR.kept hk,len⟩
 ·have e1:(ls++cs)[i]?=some x:=e1;unfold kJ at e2;by_cases hi:i<ls.length
  ·rw[List.getElem?_append_left (by simpa using hi),List.getElem?_map]at e2;cases q:ls[i]? with
   |none=>rw[q]at e2;cases e2
   |some y=>rw[q]at e2;cases e2
  ·have Y3:ls.length≤i:=Nat.not_lt.mp hi;rw[List.getElem?_append_right (by simpa using Y3),List.getElem?_map,List.length_map]at e2;rw[List.getElem?_append_right Y3]at e1;obtain⟨RR,u7⟩:=S.Py x (XF e1);cases q:js[i-ls.length]? with
   |none=>rw[q]at e2;cases e2
   |some j=>
    rw[q]at e2;have e2:(σ[j]?).join=some v:=XM e2;have eN:X.N[j]?=some x:=by
     have aux:∀(js:List Nat)(cs:List Str)(i:Nat),cs=js.filterMap (X.N[·]?)→cs.length=js.length→∀j x,js[i]?=some j→cs[i]?=some x→X.N[j]?=some x:=by
      intro js
      induction js with
      |nil=>intro cs i _ _ j x hj _;simp at hj
      |cons a r ih=>
       intro cs i he hl j x hj hx;rw[List.filterMap_cons]at he;cases qa:X.N[a]? with
       |none=>
        rw[qa]at he;have hle:=List.length_filterMap_le (X.N[·]?) r;simp only at he;rw[he,List.length_cons]at hl;omega
       |some y=>
        rw[qa]at he;simp only at he;subst he;cases i with
        |zero=>
         simp at hj hx;subst hj hx;exact qa
        |succ i=>exact ih _ i rfl (by simpa using hl) j x (by simpa using hj) (by simpa using hx)
     exact aux js cs _ S.at_ S.len j x q e1
    obtain⟨mX,_,Uv⟩:=I.loc;have Uw:σ[j]?=some (some v):=by
     cases z:σ[j]? with
     |none=>rw[z]at e2;cases e2
     |some w=>rw[z]at e2;rw[show w=some v from e2]
    obtain⟨u,r,l⟩:=Uv j x v eN Uw (u7.elim (fun z=> .inr (.inl z)) fun z=> .inr (.inr z));refine⟨u,r,?_⟩;rcases l with⟨z,_⟩|⟨_,c,z1,o,z2,z3⟩
    ·have z:X.env.scope.names.lookup x=some .local:=z;rcases u7 with w|w<;>(rw[z]at w;cases w)
    ·refine .inr ⟨nr RR,c,?_,o,hk c o z2,z3⟩;obtain⟨c',HY⟩:=nq (env:=X.env) (l:=scope.names) (acc:=[]) (x:=x) (.inl (PySem.mem_of_lookup RR));have:=rC HY;rw[z1]at this;cases this;exact HY
 ·obtain⟨v,o,z1,z2⟩:=I.cell x c (rC e);exact⟨v,o,hk c o z1,z2⟩
 ·have hp:p∈X.pn++pins:=by simpa[fL]using hp
  obtain⟨e,n,ne,nf,d⟩:=I.pin p hp;refine⟨hk _ _ e,n,Nat.ne_of_lt (Heap.lt_size e),fun hm=>?_,d⟩;rcases List.mem_cons.mp (I.rj p.1 hm)with z|z
  ·exact ne z
  ·exact nf z
end
section
variable{prog:Program}{w:World}{A:Around}{R:Result→Shared→Prop}{s:Shared}
theorem u9{elt target iter:Expr}{ifs:List Expr}{scope:Scope}{pos:Pos}{it acc:Value}{env:Env}(L:Nat→Shared→Prop)
  (turn:∀n s,L n s→wpAny (model prog w) A (pyNext it) (fun r bX=>match r with
   |none=>R (.ok .next) bX
   |some v=>wpAny (model prog w) A (letOwnedTupleGo target it v) (fun _ GQ=>wpAny (model prog w) A (assign target env v) (fun _ o8=>
     wpAny (model prog w) A (forIn ifs true fun c r=>if r=true then do let ok←isTrue c env (eval c env);pure (ForInStep.yield ok)else pure (ForInStep.yield r)) (fun ok A9=>
      if ok=true then wpAny (model prog w) A (eval elt env) (fun x LY=>
       wpAny (model prog w) A (call (.builtin "list.append") [acc,x]) (fun _ LZ=>∃m,m<n∧L m LZ) (fun _ _=>False) LY) (fun _ _=>False) A9
      else ∃m,m<n∧L m A9) (fun _ _=>False) o8) (fun _ _=>False) GQ) (fun _ _=>False) bX) (fun _ _=>False) s)
  (n:Nat) (h:L n s):codeAny (model prog w) A (.compLoop (.ListComp elt [⟨target,iter,ifs,0⟩] scope pos) 0 it acc env) R s:=by
 refine codeAny_loop rfl L (fun n s hI=>?_) n h;show wpAny _ A ((compTurn (.ListComp elt [⟨target,iter,ifs,0⟩] scope pos) 0 it acc env).onRaise (fun x=>do noteFrame x env;theTreesLotGoes x)) _ _ s;refine wpAny_noted ?_;rw[compTurn_list];refine wpAny_mono (E:=fun _ _=>False) ?_ (fun _ _ q=>q) fun _ _ z=>False.elim z
 refine wpAny_bind (wpAny_standAt (wpAny_bind (wpAny_mono (turn n s hI) (fun r bX A8=>?_) fun _ _ h'=>h')));cases r with
 |none=>exact wpAny_pure A8
 |some v=>
  refine wpAny_bind (wpAny_mono A8 (fun _ GQ A8=>?_) fun _ _ h'=>h');refine wpAny_bind (wpAny_mono A8 (fun _ o8 CB=>wpAny_bind (wpAny_mono CB (fun ok A9 E3=>?_) fun _ _ h'=>h')) fun _ _ h'=>h');cases ok with
  |false=>exact wpAny_pure ⟨rfl,E3⟩
  |true=>
   exact wpAny_bind (wpAny_bind (wpAny_mono E3 (fun x LY Pz=>wpAny_bind (wpAny_mono Pz (fun _ LZ PB=>wpAny_pure (wpAny_pure ⟨rfl,PB⟩)) fun _ _ h'=>h')) fun _ _ h'=>h'))
end
def L0(X:Cx)(ifs:List Expr)(t:TT):Prop:=
 ∀(pins:List (Addr×Obj))(s:Shared)(σ:St)(H:Hp)(Q:Bool→Hp→Prop),Inv X pins σ H s→t σ H Q→
  wpAny (model X.prog X.w) X.A (forIn ifs true fun c r=>if r=true then do let ok←isTrue c X.env (eval c X.env);pure (ForInStep.yield ok)else pure (ForInStep.yield r)) (TP X pins σ Q) X.xe s
def IQ:TT:=fun _ H Q=>Q true H
theorem hG{X:Cx}:L0 X [] IQ:=fun _ _ _ H _ I h=>wpAny_tests_nil ⟨H,I,h⟩
theorem Z'{X:Cx}{c:Expr}{t:TT}(h:PT X c t):L0 X [c] t:=fun pins s σ H Q I hq=>wpAny_tests_one (h pins s σ H Q I hq)
def rD(J:It)(ls:List Str)(js:List Nat)(g:TG)(tt:TT)(te:TE)(σ:St)(H1:Hp)(D:Addr)(Q:VK):Prop:=
 ∃W:Nat→Nat→List V→St→Hp→Prop,(∃m,W 0 m [] (kJ ls js σ) (upd H1 D (.lst [])))∧∀i m ys bA H',W i m ys bA H'→
 (J.stop i H'∧Q (.ref D) H')∨(J.go i H'∧∃N:List V→St→Hp→Prop,(∀GR fI H2,N GR fI H2→∃m',m'<m∧W (i+1) m' GR fI H2)∧∀x H2,J.EM i H' x H2→g x bA H2 fun fI H3=>tt fI H3 fun b H4=>
  if b=true then te fI H4 fun y H5=>H5 D=some (.lst ys)∧ys.length<sizeLine∧N (ys++[y]) fI (upd H5 D (.lst (ys++[y])))else N ys fI H4)
def CW(wi:TI)(ls:List Str)(js:List Nat)(g:TG)(tt:TT)(te:TE):TE:=fun σ H Q=>wi σ H fun J H1=>∀D,H1 D=none→rD J ls js g tt te σ H1 D Q
section
variable{X:Cx}{tg iter elt:Expr}{ifs:List Expr}{scope:Scope}{pos:Pos}{wi:TI}{g:TG}{tt:TT}{te:TE}{ls cs:List Str}{js:List Nat}
theorem uo{pins:List (Addr×Obj)}{s:Shared}{σ:St}{H:Hp}{Q:VK}{use:Option (Value→Sem Unit)}{QQ:Value→Shared→Prop}(hc:X.calm=true)(S:br X.N X.env.scope scope ls js cs)(hi:PI X tg iter wi)
  (hg:∀c_ eD C fp pn,PG (fL X scope (ls++cs) c_ eD C fp pn) tg g) (ht:∀c_ eD C fp pn,L0 (fL X scope (ls++cs) c_ eD C fp pn) ifs tt) (he:∀c_ eD C fp pn,PE (fL X scope (ls++cs) c_ eD C fp pn) elt te)
  (I:Inv X pins σ H s) (h:CW wi ls js g tt te σ H Q)
  (PD:∀(D C:Addr)(H':Hp)(s':Shared)(m:Str→Option Value),Inv X pins σ H' s'→Q (.ref D) H'→s'.heap.Ns C m→gS X pins H' C→compPost (model X.prog X.w) X.A X.xe use QQ (.ref D) C (.ok .next) s')
  (hs:∀x,foldedSetIterable iter X.env x=pure x:=by intro _;rfl):
  wpAny (model X.prog X.w) X.A (comprehension (.ListComp elt [⟨tg,iter,ifs,0⟩] scope pos) scope X.env (firstIterPos [⟨tg,iter,ifs,0⟩] pos) (newList []) false (eval iter X.env) use) QQ X.xe s:=by
 refine wpAny_comprehension_free rfl hs (u0 (S.has I.ok)) S.kind S.names (cy (hi pins s σ H _ I h) fun v s1 h1=>cy h1 fun O4 s2 h2=>?_);obtain⟨it,fp,tn,J,H2,rfl,I2,T,dF,f2,hW⟩:=h2;have RS:∀b∈fp,b<s2.heap.objs.size:=fun b hb=>by
  obtain⟨o,e,_⟩:=T.obj 0 _ dF b hb;exact Heap.lt_size e
 refine wpAny_newObj_type ?_;have hD:H2 s2.heap.objs.size=none:=I2.bR.fresh (Nat.le_refl _);obtain⟨W,⟨m0,w0⟩,turn⟩:=hW _ hD;have I3:Inv X pins σ (upd H2 s2.heap.objs.size (.lst [])) {s2 with heap:=s2.heap.push {cls:= .type "list",dict:=none,data:= .seq ([]:List Value).toArray}}:=
  I2.laid (t':=s2.toks) (fun b u e=>XD e) (Nat.le_refl _) ⟨Nat.zero_le _,[],0, .nil,Heap.get?_push_size _ rfl⟩
 have f3:∀b∈fp,gS X pins (upd H2 s2.heap.objs.size (.lst [])) b:=fun b hb=>⟨by rw[aj (Nat.ne_of_lt (RS b hb))];exact(f2 b hb).1,(f2 b hb).2⟩
 generalize WS:upd H2 s2.heap.objs.size (.lst [])=H3 at I3 f3 w0;generalize L4:({s2 with heap:=s2.heap.push {cls:= .type "list",dict:=none,data:= .seq ([]:List Value).toArray}}:Shared)=s3 at I3;have RT:∀b∈fp,b<s3.heap.objs.size:=fun b hb=>by
  rw[←L4];show b<(s2.heap.push _).objs.size;rw[Heap.size_push];exact Nat.lt_succ_of_lt (RS b hb)
 have Co:tn 0 s3.heap:=T.keep 0 _ _ dF fun b hb o e=>by rw[←L4];exact XD e
 refine wpAny_newFunctionEnv S.GP (by intro y hy;simp at hy) (fun h4 NG L5=>?_) S.kind;have k4:∀b o,s3.heap.get? b=some o→h4.get? b=some o:=fun b o e=>L5.extBut b o (Nat.ne_of_lt (Heap.lt_size e)) (XD e)
 have I4:=CV (h1:=h4) S I3 f3 RT NG k4;have Ux:=I4.tok (s3.toks+([]:List (Str×Value)).length);have NL:tn 0 h4:=T.keep 0 _ _ Co fun b hb o e=>k4 b o e
 show codeAny (model X.prog X.w) X.A (.compStart (.ListComp elt [⟨tg,iter,ifs,0⟩] scope pos) 0 (.ref it) (.ref s2.heap.objs.size) (compEnvC scope (fv X.env scope.names []) s3.heap.objs.size X.env)) (compPost (model X.prog X.w) X.A X.xe use QQ (.ref s2.heap.objs.size) s3.heap.objs.size) _;have Y9:∀{H':Hp},(∀b∈fp,H' b=none)→∀b∈fp,gS (fL X scope (ls++cs) s3 H3 s3.heap.objs.size fp (X.pn++pins)) [] H' b:=fun{H'} hn b hb=>by
  obtain⟨q1,q2,q3,q4,q5,q6⟩:=f3 b hb;refine⟨hn b hb,Nat.ne_of_lt (RT b hb),fun hm=>?_, .inl hb,fun x c e=>q5 x c (jz (S.has I.ok) (fun y d z=>by simp at z) e),fun p hp=>q6 p (by simpa[fL]using hp)⟩;rcases List.mem_cons.mp (I3.rj b hm)with z|z
  ·exact q2 z
  ·exact q3 z
 have loop:codeAny (model X.prog X.w) X.A (.compLoop (.ListComp elt [⟨tg,iter,ifs,0⟩] scope pos) 0 (.ref it) (.ref s2.heap.objs.size) (compEnvC scope (fv X.env scope.names []) s3.heap.objs.size X.env)) (compPost (model X.prog X.w) X.A X.xe use QQ (.ref s2.heap.objs.size) s3.heap.objs.size)
   {s3 with heap:=h4,toks:=s3.toks+([]:List (Str×Value)).length}:=by
  refine u9 (fun n s'=>∃i bA H',Inv (fL X scope (ls++cs) s3 H3 s3.heap.objs.size fp (X.pn++pins)) [] bA H' s'∧tn i s'.heap∧(∀b∈fp,H' b=none)∧∃ys,W i n ys bA H') ?_ m0 ⟨0,_,_,Ux,NL,fun b hb=>(f3 b hb).1,[],w0⟩;rintro n s5 ⟨i,NM,H5,I5,Km,NA,ys,w5⟩;rcases turn i n ys NM H5 w5 with⟨stop,qn⟩|⟨go,N,hN,step⟩
  ·refine cy (T.done (fL X scope (ls++cs) s3 H3 s3.heap.objs.size fp (X.pn++pins)) rfl rfl rfl hc i [] s5 NM H5 (fun _ _=>False) I5 (Y9 NA) Km stop) fun r s6 ⟨hr,I6⟩=>?_
   subst hr;obtain⟨m,hm,_⟩:=id I6.loc;have un:Un (mZ X.stack) fp H3 H5 s3.heap s6.heap:=I6.base;have I7:Inv X pins σ H5 s6:=I3.Lg (ch:=fp) I6.os un I6.bR I6.bare fun b hb=>by
    obtain⟨q1,q2,q3,q4,q5,q6⟩:=f3 b hb;exact⟨q4,q2,q5,q6⟩
   have fc:gS X pins H5 s3.heap.objs.size:=I3.s_ (Nat.le_refl _) I6.free;exact PD _ _ H5 s6 m I7 qn hm fc
  ·refine cy (T.item (fL X scope (ls++cs) s3 H3 s3.heap.objs.size fp (X.pn++pins)) rfl rfl rfl hc i [] s5 NM H5 (fun _ _=>False) I5 (Y9 NA) Km go) fun r s6 ⟨u,hr,h6⟩=>?_
   subst hr;refine cy h6 fun _ s7 ⟨x,H7,I7,r7,y7,PF,Uy⟩=>?_
   have Uz:=I7.pinned (Y9 Uy) (T.obj _ _ PF);refine cy (hg _ _ _ _ _ _ s7 NM H7 x u _ Uz r7 (step x H7 y7)) fun _ s8 ⟨NN,H8,I8,q8⟩=>?_
   refine cy (ht _ _ _ _ _ _ s8 NN H8 _ I8 q8) fun b s9 ⟨H9,I9,q9⟩=>?_
   have again:∀{GR:List V}{bA:St}{H':Hp}{s':Shared},Inv (fL X scope (ls++cs) s3 H3 s3.heap.objs.size fp (X.pn++pins)) ([]++rm fp s7.heap) bA H' s'→N GR bA H'→
     ∃m,m<n∧∃i bA H',Inv (fL X scope (ls++cs) s3 H3 s3.heap.objs.size fp (X.pn++pins)) [] bA H' s'∧tn i s'.heap∧(∀b∈fp,H' b=none)∧∃ys,W i m ys bA H':=fun{GR bA H' s'} I' n'=>by
    obtain⟨m',GU,w'⟩:=hN GR bA H' n';refine⟨m',GU,i+1,bA,H',I'.kF,T.keep _ _ _ PF fun b hb o e=>(I'.pin (b,o) (List.mem_append_right _ (List.mem_append_right _ (gj hb e)))).1,fun b hb=>?_,GR,w'⟩;obtain⟨o,e,d⟩:=T.obj _ _ PF b hb;exact(I'.pin (b,o) (List.mem_append_right _ (List.mem_append_right _ (gj hb e)))).2.1
   cases b with
   |false=>exact again I9 q9
   |true=>
    refine cy (he _ _ _ _ _ _ s9 NN H9 _ I9 q9) fun u2 UA ⟨y,UB,UC,UD,UE,hz,UG⟩=>?_
    refine cy (bK _ UA NN UB (.ref s2.heap.objs.size) [y] (.ref s2.heap.objs.size) [u2] (fun _ H'=>N (ys++[y]) NN H') UC rfl (.cons UD .nil) ⟨_,ys,y,rfl,rfl,UE,hz,UG⟩) fun _ WT ⟨_,WU,UH,_,UI⟩=>?_
    exact again UH UI
 exact codeAny_compStart_list loop (T.self _ 0 _ _ _ NL loop)
theorem lB(hc:X.calm=true)(S:br X.N X.env.scope scope ls js cs)(hi:PI X tg iter wi)
  (hg:∀c_ eD C fp pn,PG (fL X scope (ls++cs) c_ eD C fp pn) tg g) (ht:∀c_ eD C fp pn,L0 (fL X scope (ls++cs) c_ eD C fp pn) ifs tt) (he:∀c_ eD C fp pn,PE (fL X scope (ls++cs) c_ eD C fp pn) elt te)
  (hs:∀x,foldedSetIterable iter X.env x=pure x:=by intro _;rfl):PE X (.ListComp elt [⟨tg,iter,ifs,0⟩] scope pos) (CW wi ls js g tt te):=by
 intro pins s σ H Q I h;rw[eval_ListComp];refine uo (use:=none) hc S hi hg ht he I h (fun D C H' s' m I' q hm fc=>⟨m,hm,fun h' L5=>?_⟩) hs;obtain⟨q1,q2,q3,q4,q5,q6⟩:=fc;exact⟨.ref D,H',I'.turned (t':=s'.toks) (fun b o hb e=>L5.extBut b o hb e) q1 (Ne.symm (Ne.symm q2)) q4 q5 q6,rfl,q⟩
theorem nz{x:Str}{i:Nat}{pos' L6:Pos}(hc:X.calm=true)(hN:X.N.Nodup)(Y3:X.N[i]?=some x)(hx:X.env.scope.names.lookup x=some .local)(S:br X.N X.env.scope scope ls js cs)(hi:PI X tg iter wi)
  (hg:∀c_ eD C fp pn,PG (fL X scope (ls++cs) c_ eD C fp pn) tg g) (ht:∀c_ eD C fp pn,L0 (fL X scope (ls++cs) c_ eD C fp pn) ifs tt) (he:∀c_ eD C fp pn,PE (fL X scope (ls++cs) c_ eD C fp pn) elt te)
  (PH:swapsWith (.ListComp elt [⟨tg,iter,ifs,0⟩] scope pos) (some (.Name x pos')) L6.line X.env=pure true:=by rfl)
  (hs:∀x,foldedSetIterable iter X.env x=pure x:=by intro _;rfl):PS X (.Assign [.Name x pos'] (.ListComp elt [⟨tg,iter,ifs,0⟩] scope pos) L6) (Ih (CW wi ls js g tt te) (YM i)):=by
 intro pins s σ H D I h;rw[exec_Assign_Name_used _ _ _ _ PH];refine wpAny_bind (wpAny_standAt (wpAny_bind ?_));show wpAny _ X.A (do let _←comprehension (.ListComp elt [⟨tg,iter,ifs,0⟩] scope pos) scope X.env (firstIterPos [⟨tg,iter,ifs,0⟩] pos) (newList []) false (eval iter X.env) (some (assign (.Name x pos') X.env))) _ _ s;refine wpAny_bind (wpAny_mono (uo (use:=some (assign (.Name x pos') X.env)) (QQ:=fun _ s'=>SP X pins D .next s') hc S hi hg ht he I h (fun Dl C H' s' m I' q hm fc=>?_) hs) (fun _ s' hq=>wpAny_pure (wpAny_pure hq)) fun _ _ e=>e);show wpAny _ X.A (assign (.Name x pos') X.env (.ref Dl)) _ _ _;obtain⟨q1,q2,q3,q4,q5,q6⟩:=fc;refine wpAny_assign_Name (t_ (v:= .ref Dl) I' hN Y3 (.inl hx) rfl (fun s2 I2 ⟨a,L5,ha⟩=>?_) (.inr hx));have d6:C≠a:=by
  rcases ha with rfl|ha
  ·exact q2
  ·exact fun z=>q5 x a ha z.symm
 refine⟨m,hm.sameBut L5 d6,fun h' PK=>?_⟩;exact⟨_,H',I2.turned (t':=s2.toks) (fun b o hb e=>PK.extBut b o hb e) q1 q2 q4 q5 q6,q⟩
end
def NO(z:Str):It:=⟨fun i _=>i<z.length,fun i H x H'=>H'=H∧∃c,z.cps.toList[i]?=some c∧x= .str ⟨#[c]⟩,fun i _=>z.length≤i⟩
theorem CY{P:Program}{w:World}{K:Frag}{tg:Expr}{it:Addr}{z:Str}{ty:String}{t:Tok}(B6:ty="str_ascii_iterator"∨ty="str_iterator"):Turn P w K tg (NO z) [it] it (fun i h=>h.IsStrIter it ty z t i) where
 mem:=XX
 obj:=fun i h st b hb=>by
  have e:b=it:=by simpa using hb
  subst e;obtain⟨o,e,c,d⟩:=st;exact⟨o,e,fun v z=>by rw[d]at z;cases z⟩
 keep:=fun i h h' st k=>let ⟨o,ho,r⟩:=st;⟨o,k it (XX) o ho,r⟩
 item:=by
  intro X hP hw hK hc i pins s σ H E I hf st hg;subst hP hw hK;obtain⟨f0,f1,f2,f3,f4,f5⟩:=hf it (XX);have hg:i<z.cps.size:=hg;have key:∀h',h'.IsStrIter it ty z t (i+1)→Heap.SameBut it s.heap h'→∃u,some (Value.str ⟨#[z.cps[i]]⟩ s.toks)=some u∧
    wpAny (model X.prog X.w) X.A (letOwnedTupleGo tg (.ref it) u) (fun _ s2=>∃x H',Inv X pins σ H' s2∧RelV x u∧(NO z).EM i H x H'∧s2.heap.IsStrIter it ty z t (i+1)∧∀b∈[it],H' b=none) E {s with heap:=h',toks:=s.toks+1}:=fun h' aP sb=>by
   have I1:Inv X pins σ H {s with heap:=h',toks:=s.toks+1}:=I.turned (fun b o hb e=>(sb.2 b hb).trans e) f0 f1 f3 f4 f5;obtain⟨o,e,c,d⟩:=id aP;refine⟨_,rfl,wQ (s:={s with heap:=h',toks:=s.toks+1}) e c d (by rcases B6 with rfl|rfl<;>decide) ⟨.str ⟨#[z.cps[i]]⟩,H,I1,⟨_,rfl⟩,⟨rfl,z.cps[i],by simp[hg],rfl⟩,aP,fun b hb=>(hf b hb).1⟩⟩
  rcases B6 with rfl|rfl
  ·exact wpAny_pyNext_ascii_item st (c:=z.cps[i]) (by simp[hg]) key
  ·exact wpAny_pyNext_wide_item st (c:=z.cps[i]) (by simp[hg]) key
 done:=by
  intro X hP hw hK hc i pins s σ H E I hf st hg;subst hP hw hK;obtain⟨f0,f1,f2,f3,f4,f5⟩:=hf it (XX);have hg:z.cps.size≤i:=hg;rcases B6 with rfl|rfl
  ·exact wpAny_pyNext_ascii_end (I.ok.hd hc) st (by simp[hg]) fun h' eb=>⟨rfl,I.turned (t':=s.toks) (fun b o hb e=>eb b o hb e) f0 f1 f3 f4 f5⟩
  ·exact wpAny_pyNext_wide_end (I.ok.hd hc) st (by simp[hg]) fun h' eb=>⟨rfl,I.turned (t':=s.toks) (fun b o hb e=>eb b o hb e) f0 f1 f3 f4 f5⟩
 self:=fun _ _ _ _ _ st h=>by
  rcases B6 with rfl|rfl
  ·exact wpAny_pyIter_striter_ascii st h
  ·exact wpAny_pyIter_striter_wide st h
section
variable{X:Cx}{tg:Expr}
def PL(tl:TE):TI:=fun σ H R=>tl σ H fun x H1=>∃z,x= .str z∧R (NO z) H1
theorem IS{l:Expr}{tl:TE}(hl:PE X l tl):PI X tg l (PL tl):=by
 intro pins s σ H R I h;refine cy (hl pins s σ H _ I h) fun v s1 ⟨x,H1,I1,r1,q1⟩=>?_
 obtain⟨z,e,q⟩:=q1;subst e;obtain⟨t,rfl⟩:=r1;refine wpAny_pyIter_strU ?_;refine⟨s1.heap.objs.size,[s1.heap.objs.size],_,_,H1,rfl,I1.kept (t':=s1.toks) fun b o e=>XD e,CY (ty:=strIterType z) (t:=t) (by unfold strIterType;split<;>simp),⟨_,Heap.get?_push_size _ rfl,rfl,rfl⟩,fun b hb=>?_,q⟩;have e:b=s1.heap.objs.size:=by simpa using hb
 subst e;exact I1.s_ (Nat.le_refl _) (I1.bR.fresh (Nat.le_refl _))
end
theorem nB{J:It}{n:Nat}{ls:List Str}{js:List Nat}{g:TG}{tt:TT}{te:TE}{σ:St}{H1:Hp}{D:Addr}{Q:VK}(Pv:Nat→List V→St→Hp→Prop)
  (h0:Pv 0 [] (kJ ls js σ) (upd H1 D (.lst []))) (L7:∀i ys σ H,i<n→Pv i ys σ H→J.go i H) (ua:∀ys σ H,Pv n ys σ H→J.stop n H)
  (hs:∀i ys σ H x H2,i<n→Pv i ys σ H→J.EM i H x H2→g x σ H2 fun fI H3=>tt fI H3 fun b H4=>if b=true then te fI H4 fun y H5=>H5 D=some (.lst ys)∧ys.length<sizeLine∧Pv (i+1) (ys++[y]) fI (upd H5 D (.lst (ys++[y])))else Pv (i+1) ys fI H4)
  (hd:∀ys σ H,Pv n ys σ H→Q (.ref D) H):
  rD J ls js g tt te σ H1 D Q:=by
 refine⟨fun i m ys σ H=>m=n-i∧i≤n∧Pv i ys σ H,⟨n,XX,Nat.zero_le _,h0⟩,?_⟩;rintro i m ys σ H ⟨rfl,hi,p⟩;by_cases gK:i<n
 ·exact .inr ⟨L7 i ys σ H gK p,Pv (i+1),fun GR fI H2 p'=>⟨n-(i+1),XT,rfl,gK,p'⟩,fun x H2 y=>hs i ys σ H x H2 gK p y⟩
 ·have e:i=n:=XT;subst e;exact .inl ⟨ua ys σ H p,hd ys σ H p⟩
theorem iz{K:Frag}{a:Addr}{xs:List V}{ls:List Str}{js:List Nat}{g:TG}{tt:TT}{te:TE}{σ:St}{H1:Hp}{D:Addr}{Q:VK}(Pv:Nat→List V→St→Hp→Prop)
  (h0:Pv 0 [] (kJ ls js σ) (upd H1 D (.lst []))) (hl:∀i ys σ H,i≤xs.length→Pv i ys σ H→gZ K H a xs)
  (hs:∀i x ys σ H,xs[i]?=some x→Pv i ys σ H→g x σ H fun fI H3=>tt fI H3 fun b H4=>if b=true then te fI H4 fun y H5=>H5 D=some (.lst ys)∧ys.length<sizeLine∧Pv (i+1) (ys++[y]) fI (upd H5 D (.lst (ys++[y])))else Pv (i+1) ys fI H4)
  (hd:∀ys σ H,Pv xs.length ys σ H→Q (.ref D) H):
  rD (Kk K a) ls js g tt te σ H1 D Q:=
 nB (n:=xs.length) Pv h0 (fun i ys σ H hi p=>⟨xs,xs[i],hl i ys σ H (Nat.le_of_lt hi) p,by simp[hi]⟩) (fun ys σ H p=>⟨xs,hl _ ys σ H (Nat.le_refl _) p,Nat.le_refl _⟩)
  (fun i ys σ H x H2 hi p y=>by
   obtain⟨e,y⟩:=y;subst e;exact hs i x ys σ _ (y xs (hl i ys σ _ (Nat.le_of_lt hi) p)) p) hd
theorem Zp{lo:Int}{n:Nat}{ls:List Str}{js:List Nat}{g:TG}{tt:TT}{te:TE}{σ:St}{H1:Hp}{D:Addr}{Q:VK}(Pv:Nat→List V→St→Hp→Prop)
  (h0:Pv 0 [] (kJ ls js σ) (upd H1 D (.lst [])))
  (hs:∀i ys σ H,i<n→Pv i ys σ H→g (.int (lo+i)) σ H fun fI H3=>tt fI H3 fun b H4=>if b=true then te fI H4 fun y H5=>H5 D=some (.lst ys)∧ys.length<sizeLine∧Pv (i+1) (ys++[y]) fI (upd H5 D (.lst (ys++[y])))else Pv (i+1) ys fI H4)
  (hd:∀ys σ H,Pv n ys σ H→Q (.ref D) H):
  rD (Gz lo n) ls js g tt te σ H1 D Q:=
 nB (n:=n) Pv h0 (fun i ys σ H hi p=>hi) (fun ys σ H p=>Nat.le_refl _)
  (fun i ys σ H x H2 hi p y=>by
   obtain⟨e,y⟩:=y;subst e y;exact hs i ys σ _ hi p) hd
theorem CZ{z:Str}{ls:List Str}{js:List Nat}{g:TG}{tt:TT}{te:TE}{σ:St}{H1:Hp}{D:Addr}{Q:VK}(Pv:Nat→List V→St→Hp→Prop)
  (h0:Pv 0 [] (kJ ls js σ) (upd H1 D (.lst [])))
  (hs:∀i c ys σ H,z.cps.toList[i]?=some c→Pv i ys σ H→g (.str ⟨#[c]⟩) σ H fun fI H3=>tt fI H3 fun b H4=>if b=true then te fI H4 fun y H5=>H5 D=some (.lst ys)∧ys.length<sizeLine∧Pv (i+1) (ys++[y]) fI (upd H5 D (.lst (ys++[y])))else Pv (i+1) ys fI H4)
  (hd:∀ys σ H,Pv z.length ys σ H→Q (.ref D) H):
  rD (NO z) ls js g tt te σ H1 D Q:=
 nB (n:=z.length) Pv h0 (fun i ys σ H hi p=>hi) (fun ys σ H p=>Nat.le_refl _)
  (fun i ys σ H x H2 hi p y=>by
   obtain⟨e,c,hc,ex⟩:=y;subst e ex;exact hs i c ys σ _ hc p) hd
theorem uq(z:Str)(lo hi:Option Int):(Txt.slice z lo hi).cps.toList=(z.cps.toList.drop (HT.jS z.length 0 lo)).take (HT.jS z.length z.length hi-HT.jS z.length 0 lo):=by
 have UJ:=HT.CJ z.length 0 (Nat.zero_le _) lo;have UK:=HT.CJ z.length z.length (Nat.le_refl _) hi;have ix:Builtin.Str.strSliceIndices lo hi 1 z.length=(List.range (HT.jS z.length z.length hi-HT.jS z.length 0 lo)).map (HT.jS z.length 0 lo+·):=by
  rw[←sliceRange_one];have pos:(1:Int)>0:=XU;cases lo with
  |none=>
   cases hi with
   |none=>rfl
   |some j=>
    simp only[Builtin.Str.strSliceIndices,HT.jS,pos,if_true]
    congr 1
    by_cases h:j<0
    ·simp only[h,if_true];lia
    ·simp only[h,if_false];lia
  |some i=>
   have e1:max 0 (min (if i<0 then i+(z.length:Int)else i) (z.length:Int))=((HT.jS z.length 0 (some i):Nat):Int):=by
    simp only[HT.jS];by_cases h:i<0
    ·simp only[h,if_true];lia
    ·simp only[h,if_false];lia
   cases hi with
   |none=>
    simp only[Builtin.Str.strSliceIndices,pos,if_true];rw[e1];rfl
   |some j=>
    have e2:max 0 (min (if j<0 then j+(z.length:Int)else j) (z.length:Int))=((HT.jS z.length z.length (some j):Nat):Int):=by
     simp only[HT.jS];by_cases h:j<0
     ·simp only[h,if_true];lia
     ·simp only[h,if_false];lia
    simp only[Builtin.Str.strSliceIndices,pos,if_true];rw[e1,e2]
 have hp:=pick_run z.cps (HT.jS z.length 0 lo) (HT.jS z.length z.length hi-HT.jS z.length 0 lo);unfold Txt.slice;rw[ix];split
 ·rename_i h
  simp only[List.length_map,List.length_range,beq_self_eq_true,Bool.true_and,beq_iff_eq]at h;have h0:HT.jS z.length 0 lo=0:=by lia
  have h1:HT.jS z.length z.length hi=z.length:=by lia
  rw[h0,h1,List.drop_zero,Nat.sub_zero,List.take_of_length_le (by simp[Str.length])]
 ·rw[←hp]
theorem ur(z:Str)(lo hi:Option Int):(Txt.slice z lo hi).length≤z.length:=Txt.slice_le z lo hi
section
variable{X:Cx}
def PM:V→Option Int→Option Int→Hp→VK→Prop:=fun x lo hi H Q=>∃z,x= .str z∧z.length≤sizeLine∧Q (.str (Txt.slice z lo hi)) H
theorem YU:NC X PM:=by
 intro pins s σ H x v vl vu lo hi sl Q I rx hs pl pu h;obtain⟨z,rfl,hz,q⟩:=h;obtain⟨t,rfl⟩:=rx;refine⟨"str",_,F.slot_str_getitem.lookup,typeIs_str _ _ _,?_⟩;have go:∀l u:Option (Int×Tok),vl=partValue l→vu=partValue u→l.map (·.1)=lo→u.map (·.1)=hi→wpAny (model X.prog X.w) X.A (getItem (.str z t) (.ref sl)) (EP X pins σ Q) X.xe s:=by
  rintro l u rfl rfl rfl rfl;obtain⟨o,h1,h2,h3⟩:=hs;refine wpAny_getItem_str_slice (l:=l) (u:=u) (st:=none) ⟨o,h1,h2,h3⟩ rfl ?_;exact post_val_or_str ⟨Nat.le_trans (Txt.slice_le z _ _) hz,fun t' k=>⟨.str (Txt.slice z (l.map (·.1)) (u.map (·.1))),H,I.tok _,⟨_,rfl⟩,q⟩⟩
 cases pl with
 |none=>
  cases pu with
  |none=>exact go none none rfl rfl rfl rfl
  |int j tj=>exact go none (some (j,tj)) rfl rfl rfl rfl
 |int i ti=>
  cases pu with
  |none=>exact go (some (i,ti)) none rfl rfl rfl rfl
  |int j tj=>exact go (some (i,ti)) (some (j,tj)) rfl rfl rfl rfl
theorem uv:qT X (compareOp .LtE) (fun x y H Q=>∃i j,x= .str i∧y= .str j∧Q (.bl (!decide (j.cps.toList<i.cps.toList))) H):=by
 intro pins s σ H x y v u Q I rx ry h;obtain⟨i,j,rfl,rfl,q⟩:=h;obtain⟨t,rfl⟩:=rx;obtain⟨t',rfl⟩:=ry;exact P.le_str (bD I q rfl)
theorem Z2{bs:List Bool}{us:List Value}(r:Vals (bs.map V.bl) us)(i:Nat)(v:Value)(h:us[i]?=some v):v= .bool (bs.getD i false):=by
 induction bs generalizing us i with
 |nil=>cases r;simp at h
 |cons b r' ih=>
  cases r with
  |cons r0 rr=>
   cases i with
   |zero=>
    have h0:some _=some v:=h;cases h0;exact r0
   |succ i=>simpa using ih rr i (by simpa using h)
theorem all_range(bs:List Bool):(List.range bs.length).all (fun i=>bs.getD i false)=bs.all id:=by
 rw[Bool.eq_iff_iff,List.all_eq_true,List.all_eq_true];constructor
 ·intro h b hb;obtain⟨i,hi,rfl⟩:=List.mem_iff_getElem.mp hb;have:=h i (by simpa using hi);simpa[hi]using this
 ·intro h i hi;have hi:i<bs.length:=by simpa using hi
  simpa[hi]using h bs[i] (List.getElem_mem hi)
theorem any_range(bs:List Bool):(List.range bs.length).any (fun i=>bs.getD i false)=bs.any id:=by
 rw[Bool.eq_iff_iff,List.any_eq_true,List.any_eq_true];constructor
 ·rintro⟨i,hi,h⟩;have hi:i<bs.length:=by simpa using hi
  exact⟨bs[i],List.getElem_mem hi,by simpa[hi]using h⟩
 ·rintro⟨b,hb,h⟩;obtain⟨i,hi,rfl⟩:=List.mem_iff_getElem.mp hb;exact⟨i,by simpa using hi,by simpa[hi]using h⟩
def Fh(K:Frag)(f:List Bool→Bool):List V→Hp→VK→Prop:=fun xs H Q=>∃a bs,xs=[.ref a]∧gZ K H a (bs.map V.bl)∧Q (.bl (f bs)) H
theorem C0(hc:X.calm=true):gL X (.builtin "all") (Fh X.K fun bs=>bs.all id):=by
 intro pins s σ H xs us Q I r h;obtain⟨a,bs,rfl,hq,q⟩:=h;cases r with
 |cons r rr=>
  cases rr;cases r;obtain⟨its,rv,p,hz⟩:=I.list hq;have hl:=rv.length;rw[List.length_map]at hl;refine call_all_walk (wpAny_pyIter_list p.isList ?_);have d6:a≠s.heap.objs.size:=by
   obtain⟨o,n,e,_⟩:=p;exact Nat.ne_of_lt (Heap.lt_size e)
  refine⟨s.heap.objs.size,_,_,_,_,_,fun i=>bs.getD i false,rfl,Walks.list (A:=X.A.in1) (show X.A.in1.handled=none from I.ok.hd hc) _ a d6 its.toArray,⟨⟨_,Heap.get?_push_size _ rfl,rfl,rfl⟩,p.isList.at fun o e=>XD e⟩,fun i v s1 Q1 E1 hv q1=>?_,fun h' tk hk=>?_⟩
  ·have hv:=Z2 rv i v (by simpa using hv);subst hv;exact wpAny_truthy_bool q1
  ·rw[List.size_toArray,←hl,all_range];refine⟨.bl (bs.all id),H,I.kept fun b o e=>hk b o (fun z=>?_) (XD e),rfl,q⟩;have z:b=s.heap.objs.size:=by simpa using z
   exact absurd (z▸Heap.lt_size e) (Nat.lt_irrefl _)
theorem C4(hc:X.calm=true):gL X (.builtin "any") (Fh X.K fun bs=>bs.any id):=by
 intro pins s σ H xs us Q I r h;obtain⟨a,bs,rfl,hq,q⟩:=h;cases r with
 |cons r rr=>
  cases rr;cases r;obtain⟨its,rv,p,hz⟩:=I.list hq;have hl:=rv.length;rw[List.length_map]at hl;refine call_any_walk (wpAny_pyIter_list p.isList ?_);have d6:a≠s.heap.objs.size:=by
   obtain⟨o,n,e,_⟩:=p;exact Nat.ne_of_lt (Heap.lt_size e)
  refine⟨s.heap.objs.size,_,_,_,_,_,fun i=>bs.getD i false,rfl,Walks.list (A:=X.A.in1) (show X.A.in1.handled=none from I.ok.hd hc) _ a d6 its.toArray,⟨⟨_,Heap.get?_push_size _ rfl,rfl,rfl⟩,p.isList.at fun o e=>XD e⟩,fun i v s1 Q1 E1 hv q1=>?_,fun h' tk hk=>?_⟩
  ·have hv:=Z2 rv i v (by simpa using hv);subst hv;exact wpAny_truthy_bool q1
  ·rw[List.size_toArray,←hl,any_range];refine⟨.bl (bs.any id),H,I.kept fun b o e=>hk b o (fun z=>?_) (XD e),rfl,q⟩;have z:b=s.heap.objs.size:=by simpa using z
   exact absurd (z▸Heap.lt_size e) (Nat.lt_irrefl _)
def GV:V→Option Value
 | .ty n=>some (.type n)
 | .ref C=>some (.ref C)
 | _=>none
theorem Be{c:V}{cv u:Value}(h:GV c=some cv)(r:RelV c u):u=cv:=by
 cases c<;>first
  |(cases h;done)
  |(cases h;exact r)
inductive IU(K:Frag)(xs:List V)(H:Hp)(Q:VK):Prop
 |mk (x:_) (c:_) (t:_) (b:_) (cv:_) (_:xs=[x,c]) (_:GV c=some cv) (_:px K H x t) (_:kitOne K t cv=some b) (_:Q (.bl b) H):IU K xs H Q
theorem C5:gL X (.builtin "isinstance") (IU X.K):=by
 intro pins s σ H xs us Q I r h;obtain⟨x,c,t,b,cv,rfl,rc,ty,hk,q⟩:=h;cases r with
 |cons r1 rr=>
  cases rr with
  |cons r2 rr=>
   cases rr;cases Be rc r2;exact A4 I r1 ty hk fun tk=>⟨.bl b,H,I.tok _,rfl,q⟩
end
section
variable{P:Program}{w:World}{K:Frag}{mg:Str→Option Value}{base:Heap}
abbrev NP(P:Program)(w:World)(K:Frag)(mg:Str→Option Value)(base:Heap)(cm:Bool)(N:List Str)(qual:Str)(scope:Scope)(f:Addr)(cd:Value)(A:Around)(outer:List Env)(s:Shared)(H:Hp)(E:XK):Cx:=
 Y8 (de P w) cm P w K mg base N qual scope f cd A outer s H E
theorem jy.gA{cm:Bool}{x qual:Str}{st:Stmt}{f:Addr}{fd:FuncData}{N ps:List Str}{k:Nat}{sp:Sp}(F:jy K x qual st f fd)(S:aJ N ps (aq st))(len:∀vs H Q E,sp vs H Q E→vs.length=ps.length)
  (wX:∀(cc:Value)(A:Around)(outer:List Env)(s:Shared)(H:Hp)(vs:List V)(Q:VK)(E:XK),eC cm k (A.deeper (envOfC qual (aq st) s.heap.objs.size f cc))→sp vs H Q E→
   NI (NP P w K mg base cm N qual (aq st) f cc A outer s H E) (fun _=>E)→
   ∃t,AU (NP P w K mg base cm N qual (aq st) f cc A outer s H E) (d0 st) t∧t {nx:=fun _ H'=>Q .cJ H',rt:=Q} (start N vs) H):aZ P w K mg base (de P w) cm (k+1) f fd ps sp:=by
 obtain⟨oc,od,kV,doc,pm,an,cc,ct,Y4,rfl,lk,AV⟩:=F.ex;exact GI lk AV S len fun A outer s H vs Q E hr Ey=>wX cc A outer s H vs Q E hr Ey Yl
end
def bN(P:Program)(w:World)(K:Frag)(mg:Str→Option Value)(base:Heap)(cm:Bool)(k:Nat)(x:Str)(ps:List Str)(sp:Sp):Prop:=
 ∃f fd,aZ P w K mg base (de P w) cm k f fd ps sp∧mg x=some (.ref f)∧keepIn K (.ref f)=true∧Binds K fd ps []
theorem C7{P:Program}{w:World}{K:Frag}{mg:Str→Option Value}{base:Heap}{cm:Bool}{k:Nat}{x y:Str}{ps:List Str}{sp:Sp}{st:Stmt}{f:Addr}{fd:FuncData}(F:jy K x y st f fd)(hm:mg x=some (.ref f))(b:Binds K fd ps [])
  (ok:aZ P w K mg base (de P w) cm k f fd ps sp):bN P w K mg base cm k x ps sp:=⟨f,fd,ok,hm,F.kp,b⟩
section
variable{X:Cx}{cm:Bool}{k:Nat}{x:Str}{ps:List Str}{sp:Sp}{E:St→XK}{e:Expr}{es:List Expr}{t:TA}{p pos:Pos}
theorem aL(D:bN X.prog X.w X.K X.mg X.base cm k x ps sp)(hr:eC cm k X.A)(hx:Passes (de X.prog X.w) X E)(ha:PA X (e::es) t)(hg:Gl X x:=by rfl)(uO:(x==("__debug__":Str))=false:=by decide)
  (he:starEach (e::es) X.env=(false,eval e X.env)::starEach es X.env:=by rfl) (nh:(backTo pos (starEach es X.env)).any (·.1)=false:=by rfl):PE X (.Call (.Name x p) (e::es) [] pos) (GH sp [] E t):=by
 obtain⟨f,fd,ok,hm,hk,hb⟩:=D;exact EV ok hr hg hm hk hb .nil hx ha uO he nh
theorem fm{v:V}(h:∃u,X.mg x=some u∧RelV v u)(hg:Gl X x:=by rfl)(hd:(x==("__debug__":Str))=false:=by decide):PE X (.Name x pos) (tC v):=by
 obtain⟨u,h1,h2⟩:=h;exact Z7 hg h1 h2 hd
end
theorem u_{σ:St}{H:Hp}{A B:Hp→Prop}(h:A H):IQ σ H (fun b H4=>if b=true then A H4 else B H4):=by
 show if true=true then A H else B H
 exact kI h
theorem pA{i:Nat}{x:V}{σ:St}{H:Hp}{A B:St→Hp→Prop}(h:A (σ.set i (some x)) H):YM i x σ H (fun fI H3=>IQ fI H3 (fun b H4=>if b=true then A fI H4 else B fI H4)):=by
 show if true=true then A (σ.set i (some x)) H else B (σ.set i (some x)) H
 exact kI h
theorem aD{n:Nat}(h:n≤100000):n≤sizeLine:=Nat.le_trans h (XU)
theorem a_{n:Nat}(h:n≤100000):n<sizeLine:=Nat.lt_of_le_of_lt h (XU)
def PN(t u:TS):TS:=fun D σ H=>∃Pm:St→Hp→Prop,t {D with nx:=Pm} σ H∧∀bA H',Pm bA H'→u D bA H'
theorem aE{X:Cx}{st:Stmt}{rest:List Stmt}{t u:TS}(h1:PS X st t)(h2:AU X rest u):AU X (st::rest) (PN t u):=by
 intro pins s σ H D I h;obtain⟨Pm,ht,hu⟩:=h;refine wpAny_execs_cons (cy (h1 pins s σ H {D with nx:=Pm} I ht) fun f s1 q=>?_);cases f with
 |next=>obtain⟨bA,H',I',p⟩:=q;exact h2 pins s1 bA H' D I' (hu bA H' p)
 |brk=>exact q
 |cont=>exact q
 |ret v=>exact q
theorem ax.upd{H:Hp}{a:Addr}{o:HO}(h:H a=none):ax H (upd H a o):=fun b u e=>by rw[aj (aA e h)];exact e
theorem ax.e6{H H':Hp}{a:Addr}{o:HO}(s:ax H H')(h:H a=none):ax H (L2.upd H' a o):=fun b u e=>by rw[aj (aA e h)];exact s b u e
end L2
namespace QF
open PySem L2
theorem o6{n:Nat}{P:List Value→Prop}(h:∀a us,us.length=n→P (a::us)):∀us:List Value,us.length=n+1→P us:=fun us e=>by
 cases us with
 |nil=>cases e
 |cons a r=>exact h a r (Nat.succ.inj e)
theorem IV{P:List Value→Prop}(h:P []):∀us:List Value,us.length=0→P us:=fun us e=>by
 cases us with
 |nil=>exact h
 |cons a r=>cases e
theorem UL{P:List Value→Prop}(h:∀a,P [a]):∀us:List Value,us.length=1→P us:=o6 fun a=>IV (h a)
theorem UM{P:List Value→Prop}(h:∀a b,P [a,b]):∀us:List Value,us.length=2→P us:=o6 fun a=>o6 fun b=>IV (h a b)
theorem UN{P:List Value→Prop}(h:∀a b c,P [a,b,c]):∀us:List Value,us.length=3→P us:=o6 fun a=>o6 fun b=>o6 fun c=>IV (h a b c)
theorem UO{P:List Value→Prop}(h:∀a b c d,P [a,b,c,d]):∀us:List Value,us.length=4→P us:=o6 fun a=>o6 fun b=>o6 fun c=>o6 fun d=>IV (h a b c d)
theorem UP{P:List Value→Prop}(h:∀a b c d e,P [a,b,c,d,e]):∀us:List Value,us.length=5→P us:=o6 fun a=>o6 fun b=>o6 fun c=>o6 fun d=>o6 fun e=>IV (h a b c d e)
theorem UQ{P:List Value→Prop}(h:∀a b c d e f,P [a,b,c,d,e,f]):∀us:List Value,us.length=6→P us:=o6 fun a=>o6 fun b=>o6 fun c=>o6 fun d=>o6 fun e=>o6 fun f=>IV (h a b c d e f)
theorem UR{P:List Value→Prop}(h:∀a b c d e f g,P [a,b,c,d,e,f,g]):∀us:List Value,us.length=7→P us:=o6 fun a=>o6 fun b=>o6 fun c=>o6 fun d=>o6 fun e=>o6 fun f=>o6 fun g=>IV (h a b c d e f g)
theorem PQ(us:List Value)(e:us.length=7):∃a b c d e f g,us=[a,b,c,d,e,f,g]:=UR (P:=fun us=>∃a b c d e f g,us=[a,b,c,d,e,f,g]) (fun a b c d e f g=>⟨a,b,c,d,e,f,g,rfl⟩) us e
end QF
namespace L2
open PySem PySem.Spec PyProof.Rows PySem.W PySem.Calls
def notStar:Expr→Bool
 | .Starred _ _=>false
 | _=>true
theorem rE{e:Expr}{es:List Expr}{env:Env}(h:notStar e=true):starEach (e::es) env=(false,eval e env)::starEach es env:=by
 cases e<;>first|rfl|cases h
theorem ak{X:Cx}{e:Expr}{es:List Expr}{te:TE}{t:TA}(ha:PE X e te)(hr:PA X es t)(hn:notStar e=true:=by rfl):PA X (e::es) (GG te t):=EU ha hr (rE hn)
structure gT(K:Frag)(x qual:Str)(st:Stmt)(f:Addr)(fd:FuncData):Prop where
 ex:∃(oc:Value)(od:Option Addr)(dV kV doc pm:Value)(an:Option Addr)(cc ct:Value)(Y4:Array (Option Value)),
  fd=fnOf x qual (eW st) (d0 st) (aq st) dV kV doc pm an cc ct∧K.lookup f=some ⟨oc,od, .func fd,Y4⟩∧codeIn K cc qual=true
 kp:keepIn K (.ref f)=true
theorem Z5{K:Frag}{x qual:Str}{st:Stmt}{f:Addr}{oc:Value}{od an:Option Addr}{Y4:Array (Option Value)}{dV kV doc pm cc ct:Value}(l:K.lookup f=some ⟨oc,od, .func (fnOf x qual (eW st) (d0 st) (aq st) dV kV doc pm an cc ct),Y4⟩)
  (c:codeIn K cc qual=true) (k:keepIn K (.ref f)=true):gT K x qual st f (fnOf x qual (eW st) (d0 st) (aq st) dV kV doc pm an cc ct):=⟨⟨oc,od,dV,kV,doc,pm,an,cc,ct,Y4,rfl,l,c⟩,k⟩
section
variable{P:Program}{w:World}{K:Frag}{mg:Str→Option Value}{base:Heap}
theorem gT.gA{cm:Bool}{x qual:Str}{st:Stmt}{f:Addr}{fd:FuncData}{N ps:List Str}{k:Nat}{sp:Sp}(F:gT K x qual st f fd)(S:aJ N ps (aq st))(len:∀vs H Q E,sp vs H Q E→vs.length=ps.length)
  (wX:∀(cc:Value)(A:Around)(outer:List Env)(s:Shared)(H:Hp)(vs:List V)(Q:VK)(E:XK),eC cm k (A.deeper (envOfC qual (aq st) s.heap.objs.size f cc))→sp vs H Q E→
   NI (NP P w K mg base cm N qual (aq st) f cc A outer s H E) (fun _=>E)→
   ∃t,AU (NP P w K mg base cm N qual (aq st) f cc A outer s H E) (d0 st) t∧t {nx:=fun _ H'=>Q .cJ H',rt:=Q} (start N vs) H):aZ P w K mg base (de P w) cm (k+1) f fd ps sp:=by
 obtain⟨oc,od,dV,kV,doc,pm,an,cc,ct,Y4,rfl,lk,AV⟩:=F.ex;exact GI lk AV S len fun A outer s H vs Q E hr Ey=>wX cc A outer s H vs Q E hr Ey Yl
end
def dY(P:Program)(w:World)(K:Frag)(mg:Str→Option Value)(base:Heap)(cm:Bool)(k:Nat)(C:Addr)(m:Str)(ps:List Str)(sp:Sp):Prop:=
 ∃f fd,aZ P w K mg base (de P w) cm k f fd ps sp∧Meth K C m f∧Binds K fd ps []∧uN K C
def l5(P:Program)(w:World)(K:Frag)(mg:Str→Option Value)(base:Heap)(cm:Bool)(k:Nat)(x:Str)(C:Addr)(ps:List Str)(lu:List V)(sp:Sp):Prop:=
 ∃f fd ds,aZ P w K mg base (de P w) cm k f fd ps sp∧Mk K C f∧mg x=some (.ref C)∧Binds K fd ps ds∧Vals lu ds
theorem Yt{P:Program}{w:World}{K:Frag}{mg:Str→Option Value}{base:Heap}{cm:Bool}{k:Nat}{x:Str}{C f:Addr}{fd:FuncData}{ps:List Str}{lu:List V}{ds:List Value}{sp:Sp}(h1:aZ P w K mg base (de P w) cm k f fd ps sp)(h2:Mk K C f)(h3:mg x=some (.ref C))(h4:Binds K fd ps ds)(h5:Vals lu ds):l5 P w K mg base cm k x C ps lu sp:=⟨f,fd,ds,h1,h2,h3,h4,h5⟩
theorem Bf{P:Program}{w:World}{K:Frag}{mg:Str→Option Value}{base:Heap}{cm:Bool}{k:Nat}{m:Str}{C f:Addr}{fd:FuncData}{ps:List Str}{sp:Sp}(h1:aZ P w K mg base (de P w) cm k f fd ps sp)(h2:Meth K C m f)(h3:Binds K fd ps [])(h4:uN K C):dY P w K mg base cm k C m ps sp:=⟨f,fd,h1,h2,h3,h4⟩
section
variable{X:Cx}{cm:Bool}{k:Nat}{x m:Str}{ps:List Str}{sp:Sp}{E:St→XK}{e o:Expr}{es:List Expr}{t:TA}{to:TE}{p pos apos:Pos}{C:Addr}{lu:List V}
theorem qW(D:l5 X.prog X.w X.K X.mg X.base cm k x C ps lu sp)(hr:eC cm (k+1) X.A)(hx:Passes (de X.prog X.w) X E)(ha:PA X (e::es) t)(hg:Gl X x:=by rfl)(uO:(x==("__debug__":Str))=false:=by decide)
  (he:starEach (e::es) X.env=(false,eval e X.env)::starEach es X.env:=by rfl) (nh:(backTo pos (starEach es X.env)).any (·.1)=false:=by rfl):PE X (.Call (.Name x p) (e::es) [] pos) (YL C sp lu E t):=by
 obtain⟨f,fd,ds,ok,M,hm,hb,hd⟩:=D;exact EX M ok hr hg hm hb hd hx ha uO he nh
theorem bH{pl:Sem Bool}(ho:PE X o to)(D:dY X.prog X.w X.K X.mg X.base cm k C m ps sp)(hr:eC cm k X.A)(hx:Passes (de X.prog X.w) X E)(ha:PA X (e::es) t)
  (ua:starEach (e::es) X.env=(false,eval e X.env)::starEach es X.env:=by rfl) (nh:(backTo pos (starEach es X.env)).any (·.1)=false:=by rfl)
  (ht:eval (.Call (.Attribute o m apos) (e::es) [] pos) X.env=(do
   let ov←eval o X.env
   standAt apos.atName
   let (f,first)←holding [ov] (getMethod ov m pl)
   callWith pos f first (backTo pos (starEach (e::es) X.env)) (backToKw pos (keywordEach [] X.env))):=by rfl):PE X (.Call (.Attribute o m apos) (e::es) [] pos) (YJ C m sp [] E to t):=by
 obtain⟨f,fd,ok,hm,hb,c⟩:=D;exact EW ho c hm ok hr hb .nil hx ha ua nh ht
theorem Bg{pl:Sem Bool}(ho:PE X o to)(D:dY X.prog X.w X.K X.mg X.base cm k C m ps sp)(hr:eC cm k X.A)(hx:Passes (de X.prog X.w) X E)
  (ht:eval (.Call (.Attribute o m apos) [] [] pos) X.env=(do
   let ov←eval o X.env
   standAt apos.atName
   let (f,first)←holding [ov] (getMethod ov m pl)
   callWith pos f first (backTo pos (starEach [] X.env)) (backToKw pos (keywordEach [] X.env))):=by rfl):PE X (.Call (.Attribute o m apos) [] [] pos) (YJ C m sp [] E to Cv):=by
 obtain⟨f,fd,ok,hm,hb,c⟩:=D;exact Cy ho c hm ok hr hb .nil hx ht
end
section
variable{X:Cx}
theorem bu(K:Frag){tg l:Expr}{tl:TE}(hl:PE X l tl)(h:X.K=K:=by rfl):PI X tg l (GA K tl):=h▸EN hl
theorem aI(K:Frag){e:Expr}{f:Str}{pos:Pos}{ta:TE}(he:PE X e ta)(hb:attributeBase e f X.env (eval e X.env)=eval e X.env:=by rfl)(h:X.K=K:=by rfl):PE X (.Attribute e f pos) (Lz K ta f):=h▸Im he hb
theorem bY(K:Frag){o value:Expr}{f:Str}{pos pos':Pos}{ta tv:TE}(ha:PE X o ta)(hv:PE X value tv)(hs:swapsWith value (some (.Attribute o f pos')) pos.line X.env=pure false:=by rfl)(h:X.K=K:=by rfl):PS X (.Assign [.Attribute o f pos'] value pos) (LA K ta tv f):=h▸Io ha hv hs
theorem ar(K:Frag)(h:X.K=K:=by rfl):Kn X (IB K):=h▸E7
theorem cn(K:Frag)(h:X.K=K:=by rfl):Kn X (IC K):=h▸ID
theorem Z0(K:Frag)(h:X.K=K:=by rfl):NC X (IF K):=h▸E8
inductive GW(K:Frag)(xs:List V)(H:Hp)(Q:VK):Prop
 |mk (p:_) (ys:_) (_:xs=[.ref p]) (_:(gZ K H p ys∨Ck K H p ys)) (_:Q (.int ys.length) H):GW K xs H Q
theorem aM(K:Frag)(h:X.K=K:=by rfl):gL X (.builtin "len") (GW K):=by
 subst h;intro pins s σ H xs us Q I r hq;obtain⟨p,ys,e,d,q⟩:=hq;exact uX pins s σ H xs us Q I r ⟨p,ys,e,d,q⟩
inductive Yy(K:Frag)(xs:List V)(H:Hp)(Q:VK):Prop
 |mk (p:_) (ys:_) (_:xs=[.ref p]) (_:(gZ K H p ys∨Ck K H p ys)) (_:∀l,H l=none→Q (.ref l) (upd H l (.lst ys))):Yy K xs H Q
theorem gB(K:Frag)(h:X.K=K:=by rfl):gL X (.type "list") (Yy K):=by
 subst h;intro pins s σ H xs us Q I r hq;obtain⟨p,ys,e,d,q⟩:=hq;exact uY pins s σ H xs us Q I r ⟨p,ys,e,d,q⟩
theorem Bh(K:Frag)(hc:X.calm=true)(h:X.K=K:=by rfl):gL X (.builtin "all") (Fh K fun bs=>bs.all id):=h▸C0 hc
theorem Bi(K:Frag)(hc:X.calm=true)(h:X.K=K:=by rfl):gL X (.builtin "any") (Fh K fun bs=>bs.any id):=h▸C4 hc
theorem jA(K:Frag)(h:X.K=K:=by rfl):gL X (.builtin "isinstance") (IU K):=h▸C5
theorem hJ(K:Frag){es:List Expr}{k:Nat}{t:Gy}{n:Nat}{pos:Pos}(hc:X.calm=true)(h:Lo X es t)
  (hn:(assignEach es X.env).length=n:=by rfl) (ua:(assignEach es X.env).findIdx? (·.1)=none:=by rfl) (hK:X.K=K:=by rfl):PG X (.Tuple es k pos) (Ic K n t):=hK▸Ie hc h hn ua
theorem eE(K:Frag){T:String}{name:Str}{id:String}{r:V→List V→Hp→VK→Prop}{o e:Expr}{es:List Expr}{apos dX:Pos}{to:TE}{t:TA}(pa:PlainAttrs T)(slot:Slot T name id)(B6:typeOf (.builtin id)=pure (.type "method_descriptor"))(hm:ND X id r)(ho:PE X o to)(ha:PA X (e::es) t)
  (nj:attributeBase o name X.env (eval o X.env)=eval o X.env:=by rfl)
  (Ba:((backTo dX (starEach (e::es) X.env)).all (fun x=>!x.1)&&(backToKw dX (keywordEach [] X.env)).all (fun x=>x.1.isSome)
   &&decide ((e::es).length+([]:List Keyword).length+(if ([]:List Keyword).isEmpty then 0 else 1)<30))=true:=by rfl)
  (nk:(apos.endLine==dX.line)=true:=by rfl) (hs:starEach (e::es) X.env=(false,eval e X.env)::starEach es X.env:=by rfl) (Y_:(backTo dX (starEach es X.env)).any (·.1)=false:=by rfl) (hK:X.K=K:=by rfl):
  PE X (.Call (.Attribute o name apos) (e::es) [] dX) (RM K T r to t):=hK▸LM pa slot B6 hm ho ha nj Ba nk hs Y_
end
section
variable{X:Cx}
end
end L2
namespace QF
open PySem L2
structure TB(mg:Str→Option Value):Prop where
 eF:mg "len"=none
 fo:mg "range"=none
 fM:mg "isinstance"=none
 YK:mg "int"=none
 IW:mg "bool"=none
 RU:mg "str"=none
 pB:mg "list"=none
 Fi:mg "tuple"=none
 PR:mg "dict"=none
 L8:mg "all"=none
 L9:mg "any"=none
 C8:mg "min"=none
 GX:mg "max"=none
 iY:mg "enumerate"=none
 Fj:mg "ValueError"=none
def Cu(mg:Str→Option Value)(x:Str)(v:V):Prop:=∃u,mg x=some u∧RelV v u
def cell(ns:List Int)(k:Int):Int:=ns.getD k.toNat 0
theorem Fl{ns:List Int}{k:Int}(h0:0≤k)(h:k<(ns.length:Int)):qV (ns.map V.int) k=some (.int (cell ns k)):=by
 obtain⟨j,rfl⟩:=Int.eq_ofNat_of_zero_le h0;have hj:j<ns.length:=XT;refine av ?_;simp[cell,hj]
theorem cell_out{ns:List Int}{k:Int}(h0:0≤k)(h:¬k<(ns.length:Int)):cell ns k=0:=by
 have hj:ns.length≤k.toNat:=XT;simp[cell,hj]
def low(c:Nat):Bool:=decide (97≤c)&&decide (c≤122)
def rF(z:Str):Bool:=decide (1≤z.length)&&decide (z.length≤12)&&z.cps.toList.all low
theorem RV(a b:Nat):(([a]:List Nat)<[b])↔a<b:=by
 constructor
 ·intro h;cases h with
  |rel h=>exact h
  |cons h=>cases h
 ·intro h;exact .rel h
theorem PU(c:Nat):(!decide (([c]:List Nat)<(Str.ofString "a").cps.toList))=decide (97≤c):=by
 have e:(Str.ofString "a").cps.toList=[97]:=by decide+kernel
 rw[e,Bool.eq_iff_iff];simp only[Bool.not_eq_true',decide_eq_false_iff_not,decide_eq_true_eq,RV];omega
theorem PV(c:Nat):(!decide ((Str.ofString "z").cps.toList<([c]:List Nat)))=decide (c≤122):=by
 have e:(Str.ofString "z").cps.toList=[122]:=by decide+kernel
 rw[e,Bool.eq_iff_iff];simp only[Bool.not_eq_true',decide_eq_false_iff_not,decide_eq_true_eq,RV];omega
theorem len_app(x y:Str):(x++y).length=x.length+y.length:=by
 show(x.cps++y.cps).size=_;rw[Array.size_append];rfl
inductive C9(K:W.Frag)(vs:List V)(H:Hp)(Q:VK)(u3:XK):Prop
 |mk (a:_) (ns:_) (k:_) (_:vs=[.ref a, .int k]) (_:gZ K H a (ns.map V.int)) (_:0≤k) (_:Q (.int (cell ns k)) H):C9 K vs H Q u3
inductive rG(vs:List V)(H:Hp)(Q:VK)(u3:XK):Prop
 |mk (i:_) (_:vs=[.int i]) (_:Q (.bl true) H):rG vs H Q u3
inductive YY(vs:List V)(H:Hp)(Q:VK)(u3:XK):Prop
 |mk (c:Nat) (_:vs=[.str ⟨#[c]⟩]) (_:Q (.bl (low c)) H):YY vs H Q u3
inductive va(vs:List V)(H:Hp)(Q:VK)(u3:XK):Prop
 |mk (z:Str) (_:vs=[.str z]) (_:z.length≤100000) (_:∀H',ax H H'→Q (.bl (rF z)) H'):va vs H Q u3
inductive mq(vs:List V)(H:Hp)(Q:VK)(u3:XK):Prop
 |mk (l n h:Int) (_:vs=[.int l, .int n, .int h]) (_:Q (.bl (decide (l≤n)&&decide (n≤h))) H):mq vs H Q u3
def YN(K:W.Frag):Sp:=fun vs H Q _=>∃(a:Addr)(ns:List Int),vs=[.ref a]∧gZ K H a (ns.map V.int)∧ns.length≤63∧∀H',Q (.bl true) H'
structure Er(K:W.Frag)(mg:Str→Option Value)(x:Str)(C:Addr):Prop where
 m:mg x=some (.ref C)
 e:LU K C
def inR(l n h:Int):Bool:=decide (l≤n)&&decide (n≤h)
inductive pC(C:Addr)(vs:List V)(H:Hp)(Q:VK)(E:XK):Prop
 |mk (nm:Str) (n l h:Int) (_:vs=[.str nm, .int n, .int l, .int h]) (_:nm.length≤20) (_:(0≤l∧l≤1)) (_:(h=100∨h=999999)) (_:(if inR l n h=true then Q .cJ H else E (.ref C) none H)):pC C vs H Q E
theorem nC{i:Int}(h:i=0∨i=1∨i=12∨i=40∨i=60∨i=100∨i=999999):i.natAbs.log2<1920∧(Str.ofString (toString i)).length≤6:=by
 rcases h with rfl|rfl|rfl|rfl|rfl|rfl|rfl<;>exact⟨by decide+kernel,by decide+kernel⟩
theorem lC:(Str.empty).length=0:=by decide+kernel
theorem gN{x:V}:[x].length≤sizeLine:=aD XN
def gU(x y:Str)(p:Int):Bool:=rF x&&rF y&&!(x==y)&&inR 0 p 999999
inductive vc(C:Addr)(vs:List V)(H:Hp)(Q:VK)(E:XK):Prop
 |mk (x y:Str) (p:Int) (_:vs=[.str x, .str y, .int p]) (_:x.length≤100000) (_:y.length≤100000) (_:(if gU x y p=true then ∀H',ax H H'→Q .cJ H' else ∀H',ax H H'→E (.ref C) none H')):vc C vs H Q E
abbrev Form:=Str×Str×Int
def IX(f:Form):List V:=[.str f.1, .str f.2.1, .int f.2.2]
def ku(f:Form):List Key:=[.inr f.1, .inr f.2.1]
def kK(f:Form):List Key×V:=(ku f, .int f.2.2)
def B7(f:Form):Bool:=gU f.1 f.2.1 f.2.2
def dG(H:Hp)(xs:List V)(fs:List Form):Prop:=xs.length=fs.length∧∀(i:Nat)(f:Form),fs[i]?=some f→∃t,xs[i]?=some (V.ref t)∧H t=some (.tup (IX f))
def bI(fs:List Form):Bool:=decide (fs.length≤60)&&fs.all B7&&decide ((fs.map ku).Nodup)
def Short(fs:List Form):Prop:=fs.length≤1000∧∀f∈fs,f.1.length≤100000∧f.2.1.length≤100000
theorem dG.same{H H':Hp}{xs:List V}{fs:List Form}(t:dG H xs fs)(s:ax H H'):dG H' xs fs:=⟨t.1,fun i f e=>let ⟨b,h1,h2⟩:=t.2 i f e;⟨b,h1,s _ _ h2⟩⟩
theorem dG.nil{H:Hp}:dG H [] []:=⟨rfl,fun i f e=>by simp at e⟩
inductive pD(C:Addr)(vs:List V)(H:Hp)(Q:VK)(E:XK):Prop
 |mk (a:Addr) (xs:List V) (fs:List Form) (_:vs=[.ref a]) (_:H a=some (.lst xs)) (_:dG H xs fs) (_:Short fs) (_:(if bI fs=true then ∀H' d,ax H H'→H d=none→H' d=some (.dT (fs.map kK))→Q (.ref d) H' else ∀H',ax H H'→E (.ref C) none H')):pD C vs H Q E
theorem Aa(fs:List Form):(fs.map kK).map (·.1)=fs.map ku:=by rw[List.map_map];rfl
theorem C_{fs:List Form}{i:Nat}{f:Form}(e:fs[i]?=some f)(h:B7 f=false):bI fs=false:=by
 have hm:f∈fs:=XF e;have:fs.all B7=false:=by
  rw[Bool.eq_false_iff];intro z;rw[List.all_eq_true]at z;rw[z f hm]at h;cases h
 simp[bI,this]
theorem Bj{fs:List Form}{i:Nat}{f:Form}(e:fs[i]?=some f)(h:ku f∈(fs.take i).map ku):bI fs=false:=by
 have:¬(fs.map ku).Nodup:=fun z=>by
  obtain⟨hi,e'⟩:=Xv e;have e2:fs=fs.take i++f::fs.drop (i+1):=by
   rw[←e',List.getElem_cons_drop,List.take_append_drop]
  rw[e2,List.map_append,List.map_cons,List.nodup_append]at z;exact z.2.2 _ h _ (List.mem_cons_self) rfl
 simp[bI,this]
theorem Bk{fs:List Form}{i:Nat}{f:Form}(e:fs[i]?=some f):(fs.take (i+1)).map kK=(fs.take i).map kK++[kK f]:=by
 rw[List.take_succ,e,List.map_append];rfl
theorem L_{fs:List Form}{k:List Key}(h:bh (fs.map kK) k=none):k∉fs.map ku:=by
 have:=Z6 h;rwa[Aa]at this
theorem IY{fs:List Form}{k:List Key}{v:V}(h:bh (fs.map kK) k=some v):k∈fs.map ku:=by
 have:=Z1 h;rwa[Aa]at this
structure Dd(K:W.Frag)(C:Addr):Prop where
 cl:uN K C
 same:bS K C "same"
 out:bS K C "out"
 into:bS K C "into"
 least:bS K C "least"
 part:bS K C "part"
 near:bS K C "near"
 De:bS K C "prices"
structure Nums where
 same:Int
 out:Int
 into:Int
 least:Int
 part:Int
def iG(n:Nums):Bool:=inR 1 n.same 999999&&inR 0 n.out 999999&&inR 0 n.into 999999&&inR 1 n.least 999999&&inR 1 n.part 100
def ve(n:Nums)(l d:Addr):List (Str×V):=[("same", .int n.same),("out", .int n.out),("into", .int n.into),("least", .int n.least),("part", .int n.part),("near", .ref l),("prices", .ref d)]
def l6(n:Nums):List (Str×V):=[("same", .int n.same),("out", .int n.out),("into", .int n.into),("least", .int n.least),("part", .int n.part)]
def SameBut(x:Addr)(H H':Hp):Prop:=∀b u,b≠x→H b=some u→H' b=some u
structure jV(H:Hp)(C x:Addr)(n:Nums)(fs:List Form)(dx l d:Addr)(xs:List V):Prop where
 ob:H x=some (.ins C dx (ve n l d))
 own:H dx=some (.own x)
 li:H l=some (.lst xs)
 tr:dG H xs fs
 di:H d=some (.dT (fs.map kK))
def L'(H:Hp)(v:V)(xs:List V)(fs:List Form):Prop:=(v= .cJ∧xs=[]∧fs=[])∨∃a,v= .ref a∧H a=some (.lst xs)∧dG H xs fs
inductive qX(C CT CN:Addr)(vs:List V)(H:Hp)(Q:VK)(E:XK):Prop
 |mk (x dx:Addr) (n:Nums) (nv:V) (xs:List V) (fs:List Form) (_:vs=[.ref x, .int n.same, .int n.out, .int n.into, .int n.least, .int n.part,nv]) (_:H x=some (.ins C dx [])) (_:H dx=some (.own x)) (_:L' H nv xs fs) (_:Short fs) (_:(if iG n=true then(if bI fs=true then ∀H' l d,SameBut x H H'→jV H' C x n fs dx l d xs→H l=none→H d=none→Q .cJ H' else ∀H',SameBut x H H'→E (.ref CN) none H')else ∀H',SameBut x H H'→E (.ref CT) none H')):qX C CT CN vs H Q E
theorem PX(n:Nums):bb "part" (.int n.part) (bb "least" (.int n.least) (bb "into" (.int n.into) (bb "out" (.int n.out) (bb "same" (.int n.same) []))))=l6 n:=by kernel_rfl
theorem PY(n:Nums)(l d:Addr):bb "prices" (.ref d) (bb "near" (.ref l) (l6 n))=ve n l d:=by kernel_rfl
theorem Ma(n:Nums)(l:Addr):(bb "near" (.ref l) (l6 n)).lookup ("near":Str)=some (V.ref l):=by kernel_rfl
theorem SameBut.refl{x:Addr}{H:Hp}:SameBut x H H:=fun _ _ _ h=>h
theorem SameBut.upd{x:Addr}{H H':Hp}{o:HO}(s:SameBut x H H'):SameBut x H (upd H' x o):=fun b u n h=>by rw[aj n];exact s b u n h
theorem SameBut.same{x:Addr}{H H' H2:Hp}(s:SameBut x H H')(t:ax H' H2):SameBut x H H2:=fun b u n h=>t b u (s b u n h)
theorem SameBut.laid{x a:Addr}{H H':Hp}{o:HO}(s:SameBut x H H')(h:H a=none):SameBut x H (L2.upd H' a o):=fun b u n e=>by rw[aj (aA e h)];exact s b u n e
theorem SameBut.free{x l:Addr}{H H':Hp}{o:HO}(s:SameBut x H H')(hx:H' x=some o)(h:H' l=none):H l=none:=by
 cases e:H l with
 |none=>rfl
 |some u=>
  have n:l≠x:=fun z=>by rw[z,hx]at h;cases h
  rw[s l u n e]at h;cases h
theorem dG.but{x:Addr}{H H':Hp}{xs:List V}{fs:List Form}{C dx:Addr}{gs:List (Str×V)}(t:dG H xs fs)(s:SameBut x H H')(hx:H x=some (.ins C dx gs)):dG H' xs fs:=
 ⟨t.1,fun i f e=>let ⟨b,h1,h2⟩:=t.2 i f e;⟨b,h1,s _ _ (fun z=>by rw[z,hx]at h2;cases h2) h2⟩⟩
def fl(j:Nat):List V:=[.bl (decide (0=j)), .bl (decide (1=j)), .bl (decide (2=j)), .bl (decide (3=j)), .bl (decide (4=j)), .bl (decide (5=j)), .bl (decide (6=j)), .bl (decide (7=j)), .bl (decide (8=j)), .bl (decide (9=j)), .bl (decide (10=j)), .bl (decide (11=j)), .bl (decide (12=j)), .bl (decide (13=j))]
def kinds:List Str:=["word","book","terms","near","way","name","year","taken","full","many","no book","no finding","left","search","another"]
def kindOf(j:Nat):Str:=kinds.getD j ""
theorem int_at(is:List Int){i:Int}(h0:0≤i)(h:i<(is.length:Int)):∃m,m∈is∧qV (is.map V.int) i=some (.int m):=by
 obtain⟨j,rfl⟩:=Int.eq_ofNat_of_zero_le h0;have hj:j<is.length:=XT;exact⟨is[j],List.getElem_mem hj,av (by simp[hj])⟩
theorem Df(n:Nums)(l d:Addr):(ve n l d).lookup ("same":Str)=some (V.int n.same):=by kernel_rfl
theorem l_out(n:Nums)(l d:Addr):(ve n l d).lookup ("out":Str)=some (V.int n.out):=by kernel_rfl
theorem IZ(n:Nums)(l d:Addr):(ve n l d).lookup ("into":Str)=some (V.int n.into):=by kernel_rfl
theorem Fm(n:Nums)(l d:Addr):(ve n l d).lookup ("least":Str)=some (V.int n.least):=by kernel_rfl
theorem Dg(n:Nums)(l d:Addr):(ve n l d).lookup ("prices":Str)=some (V.ref d):=by kernel_rfl
theorem vf(n:Nums)(l d:Addr):(ve n l d).lookup ("pair_worth":Str)=none:=by kernel_rfl
end QF
namespace L2
open PySem PySem.Spec PyProof.Rows PySem.W PySem.Calls
section
variable{X:Cx}
inductive Mb(K:Frag)(x:V)(y:V)(H:Hp)(Q:VK):Prop
 |mk (p:_) (q:_) (xs:_) (_:x= .ref p) (_:y= .ref q) (_:gZ K H p xs) (_:gZ K H q []) (_:Q (.bl (!xs.isEmpty)) H):Mb K x y H Q
theorem Zq(K:Frag)(hu:X.A.units<cLine)(hK:X.K=K:=by rfl):qT X (compareOp .NotEq) (Mb K):=by
 subst hK;intro pins s σ H x y v u Q I rx ry h;obtain⟨p,q,xs,rfl,rfl,hp,hq,k⟩:=h;cases rx;cases ry;obtain⟨its,r,pl,hz⟩:=I.list hp;obtain⟨fe,r2,I0,Mc⟩:=I.list hq;cases r2;obtain⟨⟨cls,dd,data,sl⟩,ho,hc,n,hd⟩:=id pl.isList;obtain⟨⟨Md,Fn,data2,X6⟩,Y',u7,n2,hd2⟩:=id I0.isList;simp only at hc hd u7 hd2;subst hc hd u7 hd2;by_cases e:its=[]
 ·subst e;cases r;refine richCompare_meets_room (op:= .NotEq) ⟨_,ho,rfl⟩ ⟨_,Y',rfl⟩ F.slot_list_ne F.entry_list_ne (F.args_list_ne_2 _ _) (SeqAt.list_neAt p q #[] #[] n n2 dd Fn sl X6 rfl (fun _=>true)) ⟨ho,Y',fun j h1 _=>absurd h1 XN,?_⟩ hu;exact⟨(fun x=>nomatch x), .bl false,H,I,rfl,k⟩
 ·have hx:xs≠[]:=fun z=>by subst z;cases r;exact e rfl
  have hsz:(its.toArray.size !=(#[]:Array Value).size)=true:=by simpa using e
  refine richCompare_meets_room (op:= .NotEq) ⟨_,ho,rfl⟩ ⟨_,Y',rfl⟩ F.slot_list_ne F.entry_list_ne (F.args_list_ne_2 _ _) (SeqAt.list_ne_lengthsAt p q its.toArray #[] n n2 dd Fn sl X6 hsz) ⟨ho,Y',?_⟩ hu;have:(!xs.isEmpty)=true:=by simpa using hx
  rw[this]at k;exact⟨(fun x=>nomatch x), .bl true,H,I,rfl,k⟩
end
end L2
namespace QF
open PySem L2
theorem US{α:Type}{xs:List α}{i:Nat}{v:α}(h:xs[i]?=some v):qV xs (0+(i:Int))=some v:=by
 rw[Int.zero_add];exact av h
def dJ(fs:List Form)(x y:Str):Option Int:=(fs.find? fun f=>decide (f.1=x∧f.2.1=y)).map (·.2.2)
def dz(same:Int)(fs:List Form)(x y:Str):Option Int:=if x=y then some same else(dJ fs x y).map (same-·)
def bx:Option Int→V
 |none=> .cJ
 |some i=> .int i
theorem vh(f:Form)(x y:Str):ku f=[.inr x, .inr y]↔f.1=x∧f.2.1=y:=by simp[ku]
theorem uw(x y:Str):∀fs:List Form,bh (fs.map kK) [.inr x, .inr y]=(dJ fs x y).map V.int
 |[]=>rfl
 |f::r=>by
  rw[List.map_cons];by_cases h:ku f=[.inr x, .inr y]
  ·have h':=(vh f x y).mp h;rw[cz (show(kK f).1=_ from h)];simp[dJ,List.find?_cons,h'.1,h'.2,kK]
  ·have h':¬(f.1=x∧f.2.1=y):=fun z=>h ((vh f x y).mpr z)
   rw[cj (show ¬(kK f).1=_ from h),uw x y r];simp[dJ,List.find?_cons,h']
inductive vi(C:Addr)(vs:List V)(H:Hp)(Q:VK)(u3:XK):Prop
 |mk (t:Addr) (x y:Str) (n:Nums) (fs:List Form) (dx l d:Addr) (xs:List V) (_:vs=[.ref t, .str x, .str y]) (_:jV H C t n fs dx l d xs) (_:∀H',ax H H'→Q (bx (dz n.same fs x y)) H'):vi C vs H Q u3
abbrev Me:Str:=Str.ofString "abcdefghijklmnopqrstuvwxyz"
theorem Fo:Me.length=26:=by decide+kernel
theorem YZ(zs:List Str){i:Int}(h0:0≤i)(h:i<(zs.length:Int)):∃m,m∈zs∧qV (zs.map V.str) i=some (.str m):=by
 obtain⟨j,rfl⟩:=Int.eq_ofNat_of_zero_le h0;have hj:j<zs.length:=XT;exact⟨zs[j],List.getElem_mem hj,av (by simp[hj])⟩
theorem nE(x y:Str):(x++y).cps.toList=x.cps.toList++y.cps.toList:=by
 show(x.cps++y.cps).toList=_;simp
def fg(H H':Hp):Prop:=∀t v,H t=some (.tup v)→H' t=some (.tup v)
theorem fg.same{H H':Hp}(s:ax H H'):fg H H':=fun t v h=>s _ _ h
theorem fg.lst{H:Hp}{l:Addr}{xs:List V}{o:HO}(h:H l=some (.lst xs)):fg H (upd H l o):=fun t v e=>by
 rw[aj (iC e h (by intro z;cases z))];exact e
theorem dG.cF{H H':Hp}{xs:List V}{fs:List Form}(T:dG H xs fs)(k:fg H H'):dG H' xs fs:=⟨T.1,fun i f e=>let ⟨b,h1,h2⟩:=T.2 i f e;⟨b,h1,k _ _ h2⟩⟩
theorem dG.snoc{H:Hp}{xs:List V}{fs:List Form}{t:Addr}{f:Form}(T:dG H xs fs)(ht:H t=some (.tup (IX f))):dG H (xs++[.ref t]) (fs++[f]):=by
 refine⟨by simp[T.1],fun i g e=>?_⟩;by_cases h:i<fs.length
 ·rw[List.getElem?_append_left h]at e;obtain⟨b,h1,h2⟩:=T.2 i g e;exact⟨b,by rw[List.getElem?_append_left (by rw[T.1];exact h)];exact h1,h2⟩
 ·have hi:i=fs.length:=by
   have:=(Xv e).1;simp at this;omega
  subst hi;have hg:f=g:=by simpa using e
  subst hg;exact⟨t,by rw[←T.1];simp,ht⟩
theorem Fp{n j:Nat}(h:j<n):CK n (j:Int)=some j:=by
 unfold CK;rw[if_pos XQ,if_pos XQ];simp
theorem Fq:Me.cps.toList=(List.range 26).map (97+·):=by decide+kernel
theorem Dh{r:Int}:qV Me.cps.toList (r%26)=some (97+(r%26).toNat):=by
 have h0:0≤r%26:=XT;have h1:r%26<26:=XT;generalize r%26=m at h0 h1;obtain⟨j,rfl⟩:=Int.eq_ofNat_of_zero_le h0;refine av ?_;have hj:j<26:=XT;rw[Fq];simp[hj]
theorem Ab(r:Int):low (97+(r%26).toNat)=true:=by
 have h1:(r%26).toNat≤25:=XT;simp[low];omega
def lows(z:Str):Prop:=z.cps.toList.all low=true
def jB(bM:Str)(cell other:Int)(k:Nat):Str:=
 let size:=1+cell/2%12
 if cell%2=1 then Txt.slice bM none (some (1+(size+k)%12))
 else Txt.slice bM none (some (other%size))++⟨#[97+((other/12+k)%26).toNat]⟩++Txt.slice bM (some (other%size+1)) (some size)
theorem nF{n d:Nat}{v:Int}(h0:0≤v)(h:v≤n):HT.jS n d (some v)=v.toNat:=by
 simp only[HT.jS];split<;>omega
theorem kL{z:Str}{v:Int}(h0:0≤v)(h:v≤z.length):(Txt.slice z none (some v)).cps.toList=z.cps.toList.take v.toNat:=by
 rw[uq,nF h0 h,HT.CI];simp
theorem Di{z:Str}{u v:Int}(h0:0≤u)(h1:u≤v)(h:v≤z.length):(Txt.slice z (some u) (some v)).cps.toList=(z.cps.toList.drop u.toNat).take (v.toNat-u.toNat):=by
 rw[uq,nF h0 XQ,nF XQ h]
theorem len_list(z:Str):z.cps.toList.length=z.length:=by simp[Str.length]
theorem Dj{z:Str}(h1:1≤z.length)(h2:z.length≤12)(h:lows z):rF z=true:=by
 have h:z.cps.toList.all low=true:=h;simp[rF,h1,h2,h]
theorem Dk{bM:Str}(hl:bM.length=12)(hs:lows bM)(cell other:Int)(k:Nat):rF (jB bM cell other k)=true:=by
 have l7:=List.all_eq_true.mp hs;have Kq:=len_list bM;have z0:1≤1+cell/2%12∧1+cell/2%12≤12:=by lia
 unfold jB;simp only;generalize 1+cell/2%12=size at z0;split
 ·have z1:1≤1+(size+(k:Int))%12∧1+(size+(k:Int))%12≤12:=by lia
  generalize 1+(size+(k:Int))%12=m at z1;have e:=kL (z:=bM) (v:=m) (by lia) (by lia);have el:(Txt.slice bM none (some m)).length=m.toNat:=by rw[←len_list,e,List.length_take,Kq];lia
  refine Dj XR (by lia) ?_;unfold lows;rw[e,List.all_eq_true];exact fun c hc=>l7 c (List.mem_of_mem_take hc)
 ·have z1:0≤other%size∧other%size<size:=⟨Int.emod_nonneg _ (by lia),Int.emod_lt_of_pos _ (by lia)⟩
  generalize other%size=iU at z1;have e1:=kL (z:=bM) (v:=iU) (by lia) (by lia);have e2:=Di (z:=bM) (u:=iU+1) (v:=size) (by lia) (by lia) (by lia);have l1:(Txt.slice bM none (some iU)).length=iU.toNat:=by rw[←len_list,e1,List.length_take,Kq];lia
  have l2:(Txt.slice bM (some (iU+1)) (some size)).length=size.toNat-(iU+1).toNat:=by rw[←len_list,e2,List.length_take,List.length_drop,Kq];lia
  have el:(Txt.slice bM none (some iU)++(⟨#[97+((other/12+(k:Int))%26).toNat]⟩:Str)++Txt.slice bM (some (iU+1)) (some size)).length=size.toNat:=by
   rw[len_app,len_app,l1,l2];show iU.toNat+1+_=_
   lia
  refine Dj XR (by lia) ?_;unfold lows;rw[nE,nE,e1,e2,List.all_append,List.all_append];have a1:(bM.cps.toList.take iU.toNat).all low=true:=List.all_eq_true.mpr fun c hc=>l7 c (List.mem_of_mem_take hc)
  have a2:((bM.cps.toList.drop (iU+1).toNat).take (size.toNat-(iU+1).toNat)).all low=true:=List.all_eq_true.mpr fun c hc=>l7 c (List.mem_of_mem_drop (List.mem_of_mem_take hc))
  have a3:=Ab (other/12+(k:Int));rw[a1,a2];simp[a3]
theorem I_{A B:List Nat}{c:Nat}:(A++[c]++B)[A.length]?=some c:=XX
theorem Dm{bM:Str}(hl:bM.length=12)(cell other:Int){k k':Nat}(hk:k<12)(Dn:k'<12)(e:jB bM cell other k=jB bM cell other k'):k=k':=by
 have Kq:=len_list bM;have z0:1≤1+cell/2%12∧1+cell/2%12≤12:=by lia
 unfold jB at e;simp only at e;generalize 1+cell/2%12=size at z0 e;split at e
 ·have e:=congrArg (fun z:Str=>z.cps.toList.length) e;rw[kL XR (by lia),kL XR (by lia),List.length_take,List.length_take,Kq,hl]at e
  lia
 ·have z1:0≤other%size∧other%size<size:=⟨Int.emod_nonneg _ (by lia),Int.emod_lt_of_pos _ (by lia)⟩
  generalize other%size=iU at z1 e;have e1:=kL (z:=bM) (v:=iU) (by lia) (by lia);have l1:(bM.cps.toList.take iU.toNat).length=iU.toNat:=by rw[List.length_take,Kq];lia
  have at_:∀c:Nat,(Txt.slice bM none (some iU)++(⟨#[c]⟩:Str)++Txt.slice bM (some (iU+1)) (some size)).cps.toList[iU.toNat]?=some c:=fun c=>by
   rw[nE,nE,e1];have:=I_ (A:=bM.cps.toList.take iU.toNat) (B:=(Txt.slice bM (some (iU+1)) (some size)).cps.toList) (c:=c);rw[l1]at this;exact this
  have e:=congrArg (fun z:Str=>z.cps.toList[iU.toNat]?) e;have e2:=(at_ _).symm.trans (e.trans (at_ _));have e3:=XM e2
  lia
theorem ZL{bM:Str}(hl:bM.length=12)(cell other:Int){n:Nat}(hn:n≤12):((List.range n).map (jB bM cell other)).Nodup:=by
 refine List.pairwise_map.mpr ?_;refine List.Pairwise.imp_of_mem (R:=fun a b=>a≠b) (fun{a b} ha hb h e=>h ?_) List.nodup_range;exact Dm hl cell other (by have:=List.mem_range.mp ha;omega) (by have:=List.mem_range.mp hb;omega) e
inductive vj(vs:List V)(H:Hp)(Q:VK)(u3:XK):Prop
 |mk (cell other many:Int) (_:vs=[.int cell, .int other, .int many]) (_:0≤many) (_:many≤12) (_:∀H' b (zs:List Str),ax H H'→H b=none→H' b=some (.lst (zs.map V.str))→zs.length=many.toNat→(∀z∈zs,rF z=true)→zs.Nodup→Q (.ref b) H'):vj vs H Q u3
structure cR(zs:List Str)(i j:Nat)(fs:List Form):Prop where
 ok:∀f∈fs,B7 f=true
 nd:(fs.map ku).Nodup
 old:∀f∈fs,∃i' j',(i'<i∨(i'=i∧j'<j))∧zs[i']?=some f.1∧zs[j']?=some f.2.1
 XY:fs.length+(if i<j then 1 else 0)≤i*(zs.length-1)+j
theorem cR.nil{zs:List Str}:cR zs 0 0 []:=⟨XX,XX,XX,XX⟩
theorem cR.skip{zs:List Str}{i j:Nat}{fs:List Form}(p:cR zs i j fs):cR zs i (j+1) fs:=by
 refine⟨p.ok,p.nd,fun f hf=>?_,?_⟩
 ·obtain⟨i',j',h,r⟩:=p.old f hf;exact⟨i',j',XT,r⟩
 ·have:=p.XY;split<;>split at this<;>omega
theorem ZC{zs:List Str}(hn:zs.Nodup){i j:Nat}{x:Str}(h1:zs[i]?=some x)(h2:zs[j]?=some x):i=j:=by
 obtain⟨a1,b1⟩:=Xv h1;obtain⟨a2,b2⟩:=Xv h2;exact(List.getElem_inj hn).mp (b1.trans b2.symm)
theorem cR.add{zs:List Str}{i j:Nat}{fs:List Form}(p:cR zs i j fs)(hn:zs.Nodup)(hw:∀z∈zs,rF z=true){x y:Str}(hx:zs[i]?=some x)(hy:zs[j]?=some y)(d6:¬x=y){pr:Int}(h0:0≤pr)(h1:pr≤999999):
  cR zs i (j+1) (fs++[(x,y,pr)]):=by
 have sX:i≠j:=fun e=>d6 (by subst e;rw[hx]at hy;exact XM hy)
 refine⟨fun f hf=>?_,?_,fun f hf=>?_,?_⟩
 ·rcases List.mem_append.mp hf with h|h
  ·exact p.ok f h
  ·have h:f=(x,y,pr):=by simpa using h
   rw[h];have a1:=hw x (XF hx);have a2:=hw y (XF hy);simp[B7,gU,a1,a2,d6,inR,h0,h1]
 ·rw[List.map_append];refine List.nodup_append.mpr ⟨p.nd,XX,fun a ha b hb e=>?_⟩;have hb:b=ku (x,y,pr):=by simpa using hb
  rw[e,hb]at ha;obtain⟨f,hf,ef⟩:=List.mem_map.mp ha;obtain⟨e1,e2⟩:=(vh f x y).mp ef;obtain⟨i',j',h,r1,r2⟩:=p.old f hf;rw[e1]at r1;rw[e2]at r2;have:=ZC hn r1 hx;have:=ZC hn r2 hy;omega
 ·rcases List.mem_append.mp hf with h|h
  ·obtain⟨i',j',h,r⟩:=p.old f h;exact⟨i',j',XT,r⟩
  ·have h:f=(x,y,pr):=by simpa using h
   rw[h];exact⟨i,j,XT,hx,hy⟩
 ·have:=p.XY;rw[List.length_append];show fs.length+1+_≤_;split<;>split at this<;>omega
theorem cR.row{zs:List Str}{i:Nat}{fs:List Form}(p:cR zs i zs.length fs)(hi:i<zs.length):cR zs (i+1) 0 fs:=by
 refine⟨p.ok,p.nd,fun f hf=>?_,?_⟩
 ·obtain⟨i',j',h,r⟩:=p.old f hf;exact⟨i',j',XT,r⟩
 ·have h:=p.XY;rw[XH hi]at h;rw[if_neg XQ,Nat.succ_mul];omega
theorem cR.good{zs:List Str}{fs:List Form}(p:cR zs zs.length 0 fs)(h:zs.length≤8):bI fs=true:=by
 have h1:=p.XY;have h2:zs.length*(zs.length-1)≤8*7:=Nat.mul_le_mul h XQ;rw[if_neg XQ]at h1;have h3:fs.length≤60:=XT;have h4:fs.all B7=true:=List.all_eq_true.mpr p.ok;simp[bI,h3,h4,p.nd]
theorem Zr{fs:List Form}(h:bI fs=true):Short fs:=by
 simp only[bI,Bool.and_eq_true,decide_eq_true_eq,List.all_eq_true]at h;refine⟨XT,fun f hf=>?_⟩;have h1:=h.1.2 f hf;simp only[B7,gU,rF,Bool.and_eq_true,decide_eq_true_eq]at h1;omega
inductive vk(vs:List V)(H:Hp)(Q:VK)(u3:XK):Prop
 |mk (cell same:Int) (b:Addr) (zs:List Str) (_:vs=[.int cell, .ref b, .int same]) (_:H b=some (.lst (zs.map V.str))) (_:zs.length≤8) (_:(∀z∈zs,rF z=true)) (_:zs.Nodup) (_:1≤same) (_:same≤999999) (_:∀H' l xs fs,ax H H'→H l=none→H' l=some (.lst xs)→dG H' xs fs→bI fs=true→Q (.ref l) H'):vk vs H Q u3
inductive rH(vs:List V)(H:Hp)(Q:VK)(u3:XK):Prop
 |mk (x y:Str) (same:Int) (l:Addr) (xs:List V) (fs:List Form) (_:vs=[.str x, .str y, .int same, .ref l]) (_:H l=some (.lst xs)) (_:dG H xs fs) (_:Q (bx (dz same fs x y)) H):rH vs H Q u3
theorem lD{zs:List Str}{i:Nat}{v:V}(h:(zs.map V.str)[i]?=some v):∃x,zs[i]?=some x∧v= .str x:=by
 rw[List.getElem?_map]at h;cases e:zs[i]? with
 |none=>rw[e]at h;cases h
 |some x=>rw[e]at h;exact⟨x,rfl,(XM h).symm⟩
theorem Dp{fs:List Form}{x y:Str}(h:∀f∈fs,¬(f.1=x∧f.2.1=y)):dJ fs x y=none:=by
 have:fs.find? (fun f=>decide (f.1=x∧f.2.1=y))=none:=by
  rw[List.find?_eq_none];intro f hf;simpa using h f hf
 unfold dJ;rw[this];rfl
theorem qj:∀{fs:List Form}{i:Nat}{x y x0 y0:Str}{p:Int},fs[i]?=some (x0,y0,p)→(∀f∈fs.take i,¬(f.1=x∧f.2.1=y))→(x0=x∧y0=y)→dJ fs x y=some p
 |f::r,0,x,y,x0,y0,p,h,_,e=>by
  have h:f=(x0,y0,p):=by simpa using h
  rw[h];simp[dJ,List.find?_cons,e.1,e.2]
 |f::r,i+1,x,y,x0,y0,p,h,hn,e=>by
  have h1:¬(f.1=x∧f.2.1=y):=hn f XN;have:=qj (fs:=r) (i:=i) (x:=x) (y:=y) (by simpa using h) (fun g hg=>hn g (by simp[hg])) e;simpa[dJ,List.find?_cons,h1]using this
def sw(f:Form):Form:=(f.2.1,f.1,f.2.2)
inductive mw(K:W.Frag)(vs:List V)(H:Hp)(Q:VK)(u3:XK):Prop
 |mk (a:Addr) (ns:List Int) (k:Int) (_:vs=[.ref a, .int k]) (_:gZ K H a (ns.map V.int)) (_:0≤k) (_:∀H' D (s o i l:Int),ax H H'→H D=none→H' D=some (.lst [.int s, .int o, .int i, .int l])→(1≤s∧s≤999999)→(0≤o∧o≤999999)→(0≤i∧i≤999999)→(1≤l∧l≤999999)→Q (.ref D) H'):mw K vs H Q u3
theorem jV.same{H H':Hp}{C x:Addr}{n:Nums}{fs:List Form}{dx l d:Addr}{xs:List V}(T:jV H C x n fs dx l d xs)(s:ax H H'):jV H' C x n fs dx l d xs:=⟨s _ _ T.ob,s _ _ T.own,s _ _ T.li,T.tr.same s,s _ _ T.di⟩
theorem Fs{is:List Int}(h:is.length=4):∃a b c d,is=[a,b,c,d]:=by
 match is,h with
 |[a,b,c,d],_=>exact⟨a,b,c,d,rfl⟩
theorem SameBut.YS{x dx C:Addr}{H H':Hp}(hx:H x=none)(Dq:H dx=none)(s:SameBut x (L2.upd (L2.upd H dx (.own x)) x (.ins C dx [])) H'):ax H H':=fun b u e=>by
 have n1:b≠x:=aA e hx;have n2:b≠dx:=aA e Dq;exact s b u n1 (by rw[aj n1,aj n2];exact e)
end QF
namespace L2
open PySem PySem.Spec PyProof.Rows PySem.W PySem.Calls
section
variable{X:Cx}{pins:List (Addr×Obj)}{σ:St}{H:Hp}{s:Shared}{h':Heap}
theorem Inv.Ft{t':Nat}{fp:List Addr}(I:Inv X pins σ H s)(hf:∀b∈fp,gS X pins H b)(k:∀b o,b∉fp→s.heap.get? b=some o→h'.get? b=some o):Inv X pins σ H {s with heap:=h',toks:=t'}:=by
 have Gs:∀b u,H b=some u→b∉fp:=fun b u e z=>by rw[(hf b z).1]at e;cases e
 refine I.step (g':=s.gens) (d':=s.drawn) (ch:=fp) (fun b hb=>?_) (fun b o _ _ hc e _=>k b o hc e) (fun b o _ _ hc e _=>⟨o.slots,k b o hc e⟩) (fun _ _ _ _ n=>n)
  (fun b o hc e=>⟨o,k b o hc e⟩) (fun _ _ e=>e) (fun _ _ _ e=>e) (fun b ps e=>⟨#[],by rw[e];simp⟩) (fun m hm=>?_) (fun b u e=>?_) I.bare
 ·obtain⟨_,f1,_,f3,f4,f5⟩:=hf b hb;exact⟨f3,f1,f4,f5⟩
 ·obtain⟨o,es,ep,ho,r⟩:=hm;exact⟨o,es,ep,k _ o (fun z=>(hf _ z).2.1 rfl) ho,r⟩
 ·refine(I.bR b u e).uK (fun c v hc q=>k c v ?_ q) (fun _ q=>q) fun _ _ q=>q
  rcases hc with z|z
  ·rw[z];exact Gs b u e
  ·exact Gs c _ z
theorem Inv.Ac{t':Nat}{fp:List Addr}{T:Addr}{u:HO}(I:Inv X pins σ H s)(hf:∀b∈fp,gS X pins H b)(hT:gS X pins H T)(k:∀b o,b∉fp→s.heap.get? b=some o→h'.get? b=some o)
  (new:cK X.prog X.w (upd H T u) h' T u):Inv X pins σ (upd H T u) {s with heap:=h',toks:=t'}:=by
 have Gs:∀b u,H b=some u→b∉fp:=fun b u e z=>by rw[(hf b z).1]at e;cases e
 have nT:∀b v,H b=some v→b≠T:=fun b v e z=>by rw[z,hT.1]at e;cases e
 refine I.step (g':=s.gens) (d':=s.drawn) (ch:=T::fp) (fun b hb=>?_) (fun b o _ _ hc e _=>k b o (fun z=>hc (List.mem_cons_of_mem _ z)) e) (fun b o _ _ hc e _=>⟨o.slots,k b o (fun z=>hc (List.mem_cons_of_mem _ z)) e⟩) (fun b _ hc _ n=>?_)
  (fun b o hc e=>⟨o,k b o (fun z=>hc (List.mem_cons_of_mem _ z)) e⟩) (fun b xs e=>by rw[aj (nT b _ e)];exact e) (fun b o v e=>by rw[aj (nT b _ e)];exact e) (fun b ps e=>⟨#[],by rw[aj (nT b _ e),e];simp⟩) (fun m hm=>?_) (fun b v e=>?_) I.bare
 ·rcases List.mem_cons.mp hb with z|z
  ·subst z;obtain⟨_,f1,_,f3,f4,f5⟩:=hT;exact⟨f3,f1,f4,f5⟩
  ·obtain⟨_,f1,_,f3,f4,f5⟩:=hf b z;exact⟨f3,f1,f4,f5⟩
 ·rw[aj (fun z=>hc (by simp[z]))];exact n
 ·obtain⟨o,es,ep,ho,r⟩:=hm;exact⟨o,es,ep,k _ o (fun z=>(hf _ z).2.1 rfl) ho,r⟩
 ·by_cases hb:b=T
  ·subst hb;rw[ae]at e;cases e;exact new
  ·rw[aj hb]at e;refine(I.bR b v e).uK (fun c v' hc q=>k c v' ?_ q) (fun c q=>by rw[aj (nT c _ q)];exact q) fun c xs q=>by rw[aj (nT c _ q)];exact q
   rcases hc with z|z
   ·rw[z];exact Gs b v e
   ·exact Gs c _ z
theorem Inv.swap{d:Addr}{u u':HO}(I:Inv X pins σ H s)(e:H d=some u)(ht:∀xs,u≠ .tup xs)(ho:∀x,u≠ .own x)(hb:∀ps,u≠ .EJ ps)(hf:∀o v,X.eD d≠some (.qS o v))(new:cK X.prog X.w (upd H d u') s.heap d u'):Inv X pins σ (upd H d u') s:=by
 have nd:∀b,H b=none→b≠d:=fun b n z=>by rw[z,e]at n;cases n
 have nt:∀b xs,H b=some (.tup xs)→b≠d:=fun b xs q z=>by rw[z,e]at q;cases q;exact ht xs rfl
 have no:∀b x,H b=some (.own x)→b≠d:=fun b xs q z=>by rw[z,e]at q;cases q;exact ho xs rfl
 refine⟨I.ok,I.os,I.bare,⟨I.base.keep,I.base.slot,fun b o q n hx=>?_,I.base.there,fun b xs q=>?_,fun b o v q=>?_,fun b ps q=>?_⟩,I.loc,I.cell,?_,fun x c q=>?_,fun p hp=>?_,fun b v q=>?_,I.len⟩
 ·have z:=I.base.free b o q n hx;rw[aj (nd b z)];exact z
 ·have z:=I.base.cF b xs q;rw[aj (nt b xs z)];exact z
 ·have z:=I.base.m4 b o v q;rw[aj (fun y=>by subst y;exact hf o v q)];exact z
 ·obtain⟨m,z⟩:=I.base.qz b ps q;exact⟨m,by rw[aj (fun y=>by rw[y,e]at z;cases z;exact hb _ rfl)];exact z⟩
 ·rw[aj (nd _ I.free)];exact I.free
 ·rw[aj (nd _ (I.lZ x c q))];exact I.lZ x c q
 ·obtain⟨p1,p2,p3⟩:=I.pin p hp;exact⟨p1,by rw[aj (nd _ p2)];exact p2,p3⟩
 ·by_cases RW:b=d
  ·subst RW;rw[ae]at q;cases q;exact new
  ·rw[aj RW]at q;exact(I.bR b v q).uK (fun c v' _ z=>z) (fun c z=>by rw[aj (no c _ z)];exact z) fun c xs z=>by rw[aj (nt c _ z)];exact z
end
def Kr(K:Frag)(a:Addr):It:=
 ⟨fun i H=>∃xs x,gZ K H a xs∧xs[i]?=some x,fun i H x H'=>∃T y,x= .ref T∧H T=none∧H'=upd H T (.tup [.int i,y])∧∀xs,gZ K H a xs→xs[i]?=some y,fun i H=>∃xs,gZ K H a xs∧xs.length≤i⟩
theorem Bl{P:Program}{w:World}{K:Frag}{elts:List Expr}{n:Nat}{pos:Pos}(a e it:Addr)(d6:e≠it):
  Turn P w K (.Tuple elts n pos) (Kr K a) [e,it] e (fun i h=>(∃old,IsEnum h e it (i:Nat) old)∧h.IsListIter it a i) where
 mem:=XX
 obj:=fun i h st b hb=>by
  obtain⟨⟨old,s1⟩,o,s2,_,s3⟩:=st;rcases List.mem_cons.mp hb with z|z
  ·subst z;exact⟨_,s1,fun v z=>by
    have z':Data.fields _=Data.cell v:=z;cases z'⟩
  ·have e:b=it:=by simpa using z
   subst e;exact⟨o,s2,fun v z=>by rw[s3]at z;cases z⟩
 keep:=fun i h h' st k=>⟨⟨st.1.choose,k e XN _ st.1.choose_spec⟩,st.2.at fun o q=>k it (XX) o q⟩
 item:=by
  intro X hP hw hK hc i pins s σ H E I hf st hg;subst hP hw hK;obtain⟨xs,x,hq,hx⟩:=hg;obtain⟨⟨old,s1⟩,s2⟩:=st;obtain⟨its,rv,p,hz⟩:=I.list hq;obtain⟨u,hu,ru⟩:=rv.get hx;refine wpAny_pyNext_enum_item s1 s2 p.isList (x:=u) (by simpa using hu) d6 fun h' o1 o2 o3 o4 o5=>?_
  refine⟨_,rfl,wpAny_letOwnedTupleGo_enum (s:={s with heap:=h',toks:=s.toks+1}) o1 fun h2 q1 q2=>?_⟩;have uk:h2.get? s.heap.objs.size=some {cls:=Value.type "tuple",data:=Data.seq #[Value.int (↑i) s.toks,u]}:=by
   exact(q2.2 _ (Nat.ne_of_gt (Heap.lt_size s1))).trans o3
  have hT:gS X pins H s.heap.objs.size:=I.s_ (Nat.le_refl _) (I.bR.fresh (Nat.le_refl _));have I1:Inv X pins σ (upd H s.heap.objs.size (.tup [.int i,x])) {s with heap:=h2,toks:=s.toks+1}:=by
   refine I.Ac hf hT (fun b o hb q=>?_) ⟨by simp[sizeLine],[Value.int (↑i) s.toks,u], .cons ⟨_,rfl⟩ (.cons ru .nil),?_⟩
   ·have b1:b≠e:=fun z=>hb (by simp[z])
    have b2:b≠it:=fun z=>hb (by simp[z])
    exact(q2.2 b b1).trans (o5 b o b1 b2 q)
   ·exact⟨_,uk,rfl,_,rfl⟩
  refine⟨.ref s.heap.objs.size,_,I1,rfl,⟨_,x,rfl,hT.1,rfl,fun ys hy=>by rw[I.wO hy hq];exact hx⟩,⟨⟨u,by simpa using q1⟩,o2.at fun o q=>(q2.2 it (Ne.symm d6)).trans q⟩,fun b hb=>?_⟩;rw[aj (fun z=>?_)]
  ·exact(hf b hb).1
  ·have h1:=Heap.lt_size s1;obtain⟨_,h2,_⟩:=s2;have h3:=Heap.lt_size h2;rcases List.mem_cons.mp hb with y|y
   ·rw[z.symm.trans y]at h1;exact absurd h1 (Nat.lt_irrefl _)
   ·have:b=it:=by simpa using y
    rw[z.symm.trans this]at h3;exact absurd h3 (Nat.lt_irrefl _)
 done:=by
  intro X hP hw hK hc i pins s σ H E I hf st hg;subst hP hw hK;obtain⟨xs,hq,hx⟩:=hg;obtain⟨⟨old,s1⟩,s2⟩:=st;obtain⟨its,rv,p,hz⟩:=I.list hq;have hl:=rv.length;exact wpAny_pyNext_enum_end (I.ok.hd hc) s1 s2 p.isList (by simp;omega) fun h' eb=>⟨rfl,I.Ft (t':=s.toks) hf (fun b o hb q=>eb b o (fun z=>hb (by simp[z])) q)⟩
 self:=fun _ _ _ _ _ st h=>wpAny_pyIter_enum st.1.choose_spec h
section
variable{X:Cx}{tg:Expr}
def GY(K:Frag)(ta:TA):TI:=fun σ H R=>ta σ H fun vs H1=>∃a,vs=[.ref a]∧(∃xs,gZ K H1 a xs)∧R (Kr K a) H1
theorem Fu{elts:List Expr}{n:Nat}{tp:Pos}{a:Expr}{ta:TA}{p pos:Pos}(hg:Gl X "enumerate")(hm:X.mg "enumerate"=none)(ha:PA X [a] ta)(hs:starEach [a] X.env=[(false,eval a X.env)]:=by rfl):
  PI X (.Tuple elts n tp) (.Call (.Name "enumerate" p) [a] [] pos) (GY X.K ta):=by
 intro pins s σ H R I h;refine Call_ (jR I hg hm boot_enumerate (PyProof.Rows.callWith_type1 (cy (ha pos pins s σ H _ I h) fun us s1 ⟨vs,H1,I1,r1,q1⟩=>?_) hs rfl));obtain⟨l,e,⟨xs,hq⟩,q⟩:=q1;subst e;cases r1 with
 |cons r rr=>
  cases rr;cases r;obtain⟨its,rv,p,hz⟩:=I1.list hq;refine call_enumerate_list p.isList fun h' o1 o2 o3 o4=>?_
  refine wpAny_pyIter_enum (s:={s1 with heap:=h'}) o1 ?_;refine⟨s1.heap.objs.size+1,[s1.heap.objs.size+1,s1.heap.objs.size],_,_,H1,rfl,I1.kept (t':=s1.toks) o4,Bl l _ _ (Nat.succ_ne_self _),⟨⟨_,o1⟩,o2⟩,fun b hb=>?_,q⟩;have Kt:s1.heap.objs.size≤b:=by
   rcases List.mem_cons.mp hb with y|y
   ·rw[y];exact Nat.le_succ _
   ·have:b=s1.heap.objs.size:=by simpa using y
    exact Nat.le_of_eq this.symm
  exact I1.s_ Kt (I1.bR.fresh Kt)
end
theorem nG{X:Cx}(K:Frag){elts:List Expr}{n:Nat}{tp:Pos}{a:Expr}{ta:TA}{p pos:Pos}(hg:Gl X "enumerate")(hm:X.mg "enumerate"=none)(ha:PA X [a] ta)(hs:starEach [a] X.env=[(false,eval a X.env)]:=by rfl)(h:X.K=K:=by rfl):
  PI X (.Tuple elts n tp) (.Call (.Name "enumerate" p) [a] [] pos) (GY K ta):=h▸Fu hg hm ha hs
theorem Yr{K:Frag}{a:Addr}{xs:List V}{g:TG}{tb:TS}{D:Ends}{σ:St}{H:Hp}(Pv:Nat→St→Hp→Prop)(h0:Pv 0 σ H)(hl:∀i σ H,i≤xs.length→Pv i σ H→gZ K H a xs)
  (hs:∀i x T σ H,xs[i]?=some x→Pv i σ H→H T=none→g (.ref T) σ (upd H T (.tup [.int i,x])) fun fI H2=>tb {D with nx:=Pv (i+1),ct:=Pv (i+1),bk:=D.nx} fI H2) (hd:∀σ H,Pv xs.length σ H→D.nx σ H):
  ∃W:Nat→Nat→St→Hp→Prop,(∃m,W 0 m σ H)∧∀i m σ H,W i m σ H→
   ((Kr K a).stop i H∧D.nx σ H)∨((Kr K a).go i H∧∃N:St→Hp→Prop,(∀bA H',N bA H'→∃m',m'<m∧W (i+1) m' bA H')∧∀x H',(Kr K a).EM i H x H'→g x σ H' fun fI H2=>tb {D with nx:=N,ct:=N,bk:=D.nx} fI H2):=by
 refine⟨fun i m σ H=>m=xs.length-i∧i≤xs.length∧Pv i σ H,⟨xs.length,XX,Nat.zero_le _,h0⟩,?_⟩;rintro i m σ H ⟨rfl,hi,p⟩;have hq:=hl i σ H hi p;by_cases gK:i<xs.length
 ·refine .inr ⟨⟨xs,xs[i],hq,by simp[gK]⟩,Pv (i+1),fun bA H' p'=>⟨xs.length-(i+1),XT,rfl,gK,p'⟩,fun x H' y=>?_⟩;obtain⟨T,y,rfl,hT,rfl,hy⟩:=y;exact hs i y T σ H (hy xs hq) p hT
 ·have e:i=xs.length:=XT;subst e;exact .inl ⟨⟨xs,hq,Nat.le_refl _⟩,hd σ H p⟩
def NF(eD:Hp)(d:Addr):Prop:=∀o v,eD d≠some (.qS o v)
section
variable{X:Cx}{tg:Expr}
end
end L2
namespace QF
open PySem L2
inductive vm(K:W.Frag)(vs:List V)(H:Hp)(Q:VK)(u3:XK):Prop
 |mk (a b:Addr) (ns:List Int) (zs:List Str) (c p m:Int) (_:vs=[.ref a, .int c, .int p, .int m, .ref b]) (_:gZ K H a (ns.map V.int)) (_:H b=some (.lst (zs.map V.str))) (_:(1≤zs.length∧zs.length≤1000)) (_:0≤p) (_:0≤m) (_:m≤1000) (_:∀H' l (ws:List Str),ax H H'→H l=none→H' l=some (.lst (ws.map V.str))→ws.length=m.toNat→(∀w∈ws,w∈zs)→Q (.ref l) H'):vm K vs H Q u3
end QF
namespace L2
open PySem PySem.Spec PyProof.Rows PySem.W PySem.Calls
section
variable{X:Cx}
theorem Fv(K:Frag){T:String}{name:Str}{id:String}{r:V→List V→Hp→VK→Prop}{o:Expr}{apos dX:Pos}{to:TE}(pa:PlainAttrs T)(slot:Slot T name id)(B6:typeOf (.builtin id)=pure (.type "method_descriptor"))(hm:ND X id r)(ho:PE X o to)
  (nj:attributeBase o name X.env (eval o X.env)=eval o X.env:=by rfl) (nk:(apos.endLine==dX.line)=true:=by rfl) (hK:X.K=K:=by rfl):PE X (.Call (.Attribute o name apos) [] [] dX) (LL K T r to):=hK▸IG pa slot B6 hm ho nj nk
end
end L2
namespace QF
open PySem L2
def Py(c:Nat):Bool:=decide (65≤c)&&decide (c≤90)
def conv(c:Nat):Nat:=if low c=true then c else if Py c=true then c+32 else 32
abbrev great:Str:=Str.ofString "ABCDEFGHIJKLMNOPQRSTUVWXYZ"
def rd(st:KWd.St)(cs:List Nat):KWd.St:=(cs.map conv).foldl KWd.step st
abbrev both:Str:=Str.ofString "abcdefghijklmnopqrstuvwxyzABCDEFGHIJKLMNOPQRSTUVWXYZ"
abbrev marks:Str:=Str.ofString " .,-'0123456789!?()[]{}@`_~/:;<=>#$&*+|^\\\""
end QF
namespace L2
open PySem PySem.Spec PyProof.Rows PySem.W PySem.Calls
section
variable{X:Cx}
def RX(xs ys:List V)(f:Nat→Bool):Prop:=∀(j:Nat)(x y:V),xs[j]?=some x→ys[j]?=some y→(qi x=true∧qi y=true∧f j=uV x y)∨(∃a,x= .ref a∧y= .ref a∧f j=true)
theorem Dr{A:Around}{s:Shared}{xs ys:List V}{its fe:List Value}{f:Nat→Bool}(r:Vals xs its)(r2:Vals ys fe)(h:RX xs ys f):
  ∀j (h1:j<its.toArray.size) (h2:j<fe.toArray.size),SeqAt.EqAt A s its.toArray[j] fe.toArray[j] (f j):=fun j h1 h2=>by
 have Ku:j<xs.length:=by have:=r.length;simp at h1;omega
 have GZ:j<ys.length:=by have:=r2.length;simp at h2;omega
 obtain⟨a1,e1,q1⟩:=r.get (i:=j) (x:=xs[j]) (by simp[Ku]);obtain⟨a2,e2,q2⟩:=r2.get (i:=j) (x:=ys[j]) (by simp[GZ]);have g1:its.toArray[j]=a1:=by simpa[List.getElem?_eq_some_iff]using(Xv e1).2
 have g2:fe.toArray[j]=a2:=by simpa[List.getElem?_eq_some_iff]using(Xv e2).2
 rw[g1,g2];rcases h j xs[j] ys[j] (by simp[Ku]) (by simp[GZ])with⟨f1,f2,ef⟩|⟨a,ex,ey,ef⟩
 ·rw[ef];exact uW q1 q2 f1 f2
 ·rw[ef];rw[ex]at q1;rw[ey]at q2;cases q1;cases q2;exact SeqAt.EqAt.same _
inductive Mf(K:Frag)(x:V)(y:V)(H:Hp)(Q:VK):Prop
 |mk (p:_) (q:_) (xs:_) (ys:_) (f:_) (_:x= .ref p) (_:y= .ref q) (_:gZ K H p xs) (_:gZ K H q ys) (_:RX xs ys f) (_:Q (.bl (decide (xs.length=ys.length)&&(List.range xs.length).all f)) H):Mf K x y H Q
theorem ZQ(K:Frag)(hu:X.A.units<cLine)(hK:X.K=K:=by rfl):qT X (compareOp .Eq) (Mf K):=by
 subst hK;intro pins s σ H x y v u Q I rx ry h;obtain⟨p,q,xs,ys,f,rfl,rfl,hp,hq,hf,k⟩:=h;cases rx;cases ry;obtain⟨its,r,pl,hz⟩:=I.list hp;obtain⟨fe,r2,I0,Mc⟩:=I.list hq;have l1:=r.length;have l2:=r2.length;obtain⟨⟨cls,dd,data,sl⟩,ho,hc,n,hd⟩:=id pl.isList;obtain⟨⟨Md,Fn,data2,X6⟩,Y',u7,n2,hd2⟩:=id I0.isList;simp only at hc hd u7 hd2;subst hc hd u7 hd2;by_cases e:xs.length=ys.length
 ·have hsz:its.toArray.size=fe.toArray.size:=by rw[List.size_toArray,List.size_toArray];omega
  refine richCompare_meets_room (op:= .Eq) ⟨_,ho,rfl⟩ ⟨_,Y',rfl⟩ F.slot_list_eq F.entry_list_eq (F.args_list_eq_2 _ _) (SeqAt.list_eqAt p q its.toArray fe.toArray n n2 dd Fn sl X6 hsz f) ⟨ho,Y',Dr r r2 hf,?_⟩ hu;rw[decide_eq_true e,Bool.true_and]at k;refine⟨(fun x=>nomatch x), .bl ((List.range xs.length).all f),H,I,?_,k⟩;rw[List.size_toArray,←l1];rfl
 ·have hsz:(its.toArray.size !=fe.toArray.size)=true:=by
   rw[List.size_toArray,List.size_toArray];simp;omega
  refine richCompare_meets_room (op:= .Eq) ⟨_,ho,rfl⟩ ⟨_,Y',rfl⟩ F.slot_list_eq F.entry_list_eq (F.args_list_eq_2 _ _) (SeqAt.list_eq_lengthsAt p q its.toArray fe.toArray n n2 dd Fn sl X6 hsz) ⟨ho,Y',?_⟩ hu;rw[decide_eq_false e,Bool.false_and]at k;exact⟨(fun x=>nomatch x), .bl false,H,I,rfl,k⟩
end
section
variable{X:Cx}
end
end L2
namespace QF
open PySem L2
abbrev Pr:=Int×Int
def ju(p:Pr):List V:=[.int p.1, .int p.2]
def eG(H:Hp)(vs:List V)(ps:List Pr):Prop:=vs.length=ps.length∧∀(i:Nat)(p:Pr),ps[i]?=some p→∃t,vs[i]?=some (V.ref t)∧H t=some (.tup (ju p))
theorem eG.nil{H:Hp}:eG H [] []:=⟨rfl,fun i f e=>by simp at e⟩
theorem eG.cF{H H':Hp}{xs:List V}{fs:List Pr}(T:eG H xs fs)(k:fg H H'):eG H' xs fs:=⟨T.1,fun i f e=>let ⟨b,h1,h2⟩:=T.2 i f e;⟨b,h1,k _ _ h2⟩⟩
theorem eG.same{H H':Hp}{xs:List V}{fs:List Pr}(t:eG H xs fs)(s:ax H H'):eG H' xs fs:=t.cF (fg.same s)
theorem eG.append{H:Hp}{xs ys:List V}{fs gs:List Pr}(T:eG H xs fs)(U:eG H ys gs):eG H (xs++ys) (fs++gs):=by
 refine⟨by simp[T.1,U.1],fun i p e=>?_⟩;by_cases h:i<fs.length
 ·rw[List.getElem?_append_left h]at e;obtain⟨b,h1,h2⟩:=T.2 i p e;exact⟨b,by rw[List.getElem?_append_left (by rw[T.1];exact h)];exact h1,h2⟩
 ·rw[List.getElem?_append_right XQ]at e;obtain⟨b,h1,h2⟩:=U.2 _ p e;exact⟨b,by rw[List.getElem?_append_right (by rw[T.1];omega),T.1];exact h1,h2⟩
theorem eG.one{H:Hp}{t:Addr}{p:Pr}(ht:H t=some (.tup (ju p))):eG H [.ref t] [p]:=by
 refine⟨rfl,fun i q e=>?_⟩
 match i,e with
 |0,e=>cases e;exact⟨t,rfl,ht⟩
 |i+1,e=>simp at e
theorem eG.snoc{H:Hp}{xs:List V}{fs:List Pr}{t:Addr}{f:Pr}(T:eG H xs fs)(ht:H t=some (.tup (ju f))):eG H (xs++[.ref t]) (fs++[f]):=T.append (.one ht)
theorem eG.take{H:Hp}{xs:List V}{fs:List Pr}(T:eG H xs fs)(k:Nat):eG H (xs.take k) (fs.take k):=by
 refine⟨by simp[T.1],fun i p e=>?_⟩;rw[List.getElem?_take]at e;split at e
 ·rename_i h
  obtain⟨b,h1,h2⟩:=T.2 i p e;exact⟨b,by rw[List.getElem?_take,XH h];exact h1,h2⟩
 ·cases e
theorem eG.drop{H:Hp}{xs:List V}{fs:List Pr}(T:eG H xs fs)(k:Nat):eG H (xs.drop k) (fs.drop k):=by
 refine⟨by simp[T.1],fun i p e=>?_⟩;rw[List.getElem?_drop]at e;obtain⟨b,h1,h2⟩:=T.2 _ p e;exact⟨b,by rw[List.getElem?_drop];exact h1,h2⟩
def pr(ps:List Pr)(k:Nat):Pr:=ps.getD k (0,0)
theorem G0{ps:List Pr}{k:Nat}(h:k<ps.length):ps[k]?=some (pr ps k):=by
 simp[pr,h]
theorem eG.Kv{H:Hp}{xs:List V}{ps:List Pr}(T:eG H xs ps){k:Nat}(h:k<ps.length):∃t,xs[k]?=some (V.ref t)∧H t=some (.tup [.int (pr ps k).1, .int (pr ps k).2]):=T.2 k _ (G0 h)
theorem Fw{ps:List Pr}{k n:Nat}(h:k<n):pr (ps.take n) k=pr ps k:=by
 simp[pr,List.getD_eq_getElem?_getD,List.getElem?_take,h]
theorem gC{ps:List Pr}{p:Pr}{k:Nat}(h:k<ps.length):pr (ps++[p]) k=pr ps k:=by
 simp[pr,List.getD_eq_getElem?_getD,List.getElem?_append_left h]
theorem qY{ps:List Pr}{p:Pr}:pr (ps++[p]) ps.length=p:=by
 simp[pr,List.getD_eq_getElem?_getD]
structure Case where
 xs:List Str
 ys:List Str
 same:Int
 out:Int
 into:Int
 least:Int
 fs:List Form
structure kM(H:Hp)(a:Addr)(c:Case)(f g m l:Addr)(vs:List V):Prop where
 ca:H a=some (.lst [.ref f, .ref g, .ref m, .ref l])
 fi:H f=some (.lst (c.xs.map V.str))
 se:H g=some (.lst (c.ys.map V.str))
 nu:H m=some (.lst [.int c.same, .int c.out, .int c.into, .int c.least])
 ne:H l=some (.lst vs)
 tr:dG H vs c.fs
theorem kM.keep{H H':Hp}{a:Addr}{c:Case}{f g m l:Addr}{vs:List V}(C:kM H a c f g m l vs)(s:ax H H'):kM H' a c f g m l vs:=⟨s _ _ C.ca,s _ _ C.fi,s _ _ C.se,s _ _ C.nu,s _ _ C.ne,C.tr.same s⟩
structure gW(most:Nat)(c:Case):Prop where
 x:c.xs.length≤most
 y:c.ys.length≤most
 good:bI c.fs=true
 same:1≤c.same∧c.same≤999999
 out:0≤c.out∧c.out≤999999
 into:0≤c.into∧c.into≤999999
 least:1≤c.least∧c.least≤999999
def wd(xs:List Str)(i:Int):Option Str:=if 0≤i then xs[i.toNat]? else none
theorem rJ{xs:List Str}{i:Nat}:wd xs (i:Int)=xs[i]?:=by simp[wd]
theorem Ad{xs:List Str}{i:Int}(h0:0≤i)(h:i<(xs.length:Int)):∃x,wd xs i=some x∧qV (xs.map V.str) i=some (.str x):=by
 obtain⟨j,rfl⟩:=Int.eq_ofNat_of_zero_le h0;have hj:j<xs.length:=XT;exact⟨xs[j],by rw[rJ];simp[hj],av (by simp[hj])⟩
theorem Ae{xs:List Str}{i:Int}{x:Str}(h:wd xs i=some x):0≤i∧i<(xs.length:Int):=by
 unfold wd at h;split at h
 ·have:=(Xv h).1;omega
 ·cases h
def Case.pw(c:Case)(p:Pr):Option Int:=(wd c.xs p.1).bind fun x=>(wd c.ys p.2).bind fun y=>dz c.same c.fs x y
theorem Case.pw_of{c:Case}{p:Pr}{x y:Str}(h1:wd c.xs p.1=some x)(h2:wd c.ys p.2=some y):c.pw p=dz c.same c.fs x y:=by simp[Case.pw,h1,h2]
theorem Case.pw_in{c:Case}{p:Pr}{w:Int}(h:c.pw p=some w):(0≤p.1∧p.1<(c.xs.length:Int))∧(0≤p.2∧p.2<(c.ys.length:Int)):=by
 unfold Case.pw at h;cases e1:wd c.xs p.1 with
 |none=>rw[e1]at h;cases h
 |some x=>
  cases e2:wd c.ys p.2 with
  |none=>rw[e1,e2]at h;cases h
  |some y=>exact⟨Ae e1,Ae e2⟩
theorem Case.pw_out{c:Case}{p:Pr}(h:¬((0≤p.1∧p.1<(c.xs.length:Int))∧(0≤p.2∧p.2<(c.ys.length:Int)))):c.pw p=none:=by
 cases e:c.pw p with
 |none=>rfl
 |some w=>exact absurd (c.pw_in e) h
def stepOk(q p:Pr):Bool:=decide (q.1<p.1)&&decide (q.2<p.2)
def Case.gap(c:Case)(q p:Pr):Int:=c.out*(p.1-q.1-1)+c.into*(p.2-q.2-1)
def gm(c:Case)(ps:List Pr)(k:Nat):Bool:=(c.pw (pr ps k)).isSome&&(decide (k=0)||stepOk (pr ps (k-1)) (pr ps k))
def iH(c:Case)(ps:List Pr)(n:Nat):Prop:=∀k,k<n→gm c ps k=true
def nH(c:Case)(ps:List Pr):Bool:=!ps.isEmpty&&(List.range ps.length).all (gm c ps)
def dq(c:Case)(ps:List Pr):Nat→Int
 |0=>(c.pw (pr ps 0)).getD 0
 |k+1=>(c.pw (pr ps (k+1))).getD 0+dq c ps k-c.gap (pr ps k) (pr ps (k+1))
theorem lE{c:Case}{ps:List Pr}(h:ps≠[])(g:iH c ps ps.length):nH c ps=true:=by
 have h1:ps.isEmpty=false:=by simpa using h
 have h2:(List.range ps.length).all (gm c ps)=true:=List.all_eq_true.mpr fun k hk=>g k (by simpa using hk)
 simp[nH,h1,h2]
theorem jW{c:Case}{ps:List Pr}(h:nH c ps=true):ps≠[]∧iH c ps ps.length:=by
 simp only[nH,Bool.and_eq_true,List.all_eq_true]at h;refine⟨fun z=>by subst z;simp at h,fun k hk=>h.2 k (by simpa using hk)⟩
theorem Fx{c:Case}{ps:List Pr}{k:Nat}(h:gm c ps k=true):∃w,c.pw (pr ps k)=some w:=by
 simp only[gm,Bool.and_eq_true]at h;exact Option.isSome_iff_exists.mp h.1
theorem ux{c:Case}{ps:List Pr}{p:Pr}(g:iH c ps ps.length)(h:(c.pw p).isSome=true)(f:ps=[]∨stepOk (pr ps (ps.length-1)) p=true):iH c (ps++[p]) (ps.length+1):=fun k hk=>by
 by_cases e:k<ps.length
 ·have:=g k e;simp only[gm]at this⊢;rw[gC e];by_cases k0:k=0
  ·subst k0;simpa using this
  ·rw[gC (by omega:k-1<ps.length)];exact this
 ·have:k=ps.length:=XT;subst this;simp only[gm];rw[qY,h];rcases f with f|f
  ·subst f;rfl
  ·by_cases e0:ps.length=0
   ·simp[e0]
   ·rw[gC XQ,f];simp
structure G6(c:Case):Prop where
 out:0≤c.out∧c.out≤999999
 into:0≤c.into∧c.into≤999999
theorem gW.num{m:Nat}{c:Case}(h:gW m c):G6 c:=⟨h.out,h.into⟩
def Y6(H:Hp)(CT t:Addr)(c:Case):Prop:=∃n dx l d vs,jV H CT t n c.fs dx l d vs∧n.same=c.same∧n.out=c.out∧n.into=c.into∧n.least=c.least
theorem Y6.keep{H H':Hp}{CT t:Addr}{c:Case}(T:Y6 H CT t c)(s:ax H H'):Y6 H' CT t c:=by
 obtain⟨n,dx,l,d,vs,T,r⟩:=T;exact⟨n,dx,l,d,vs,T.same s,r⟩
inductive rK(K:W.Frag)(vs:List V)(H:Hp)(Q:VK)(u3:XK):Prop
 |mk (a b x:Addr) (ns:List Int) (zs ws:List Str) (c p m:Int) (_:vs=[.ref a, .int c, .int p, .int m, .ref x, .ref b]) (_:gZ K H a (ns.map V.int)) (_:H b=some (.lst (zs.map V.str))) (_:H x=some (.lst (ws.map V.str))) (_:(1≤zs.length∧zs.length≤1000)) (_:ws.length≤1000) (_:(∀w∈ws,w∈zs)) (_:0≤p) (_:0≤m) (_:m≤1000) (_:∀H' l (ws:List Str),ax H H'→H l=none→H' l=some (.lst (ws.map V.str))→ws.length=m.toNat→(∀w∈ws,w∈zs)→Q (.ref l) H'):rK K vs H Q u3
inductive vn(K:W.Frag)(vs:List V)(H:Hp)(Q:VK)(u3:XK):Prop
 |mk (a:Addr) (ns:List Int) (most:Int) (_:vs=[.ref a, .int most]) (_:gZ K H a (ns.map V.int)) (_:0≤most) (_:most≤40) (_:∀H' b c f g m l us,ax H H'→H b=none→kM H' b c f g m l us→gW most.toNat c→Q (.ref b) H'):vn K vs H Q u3
inductive pE(vs:List V)(H:Hp)(Q:VK)(u3:XK):Prop
 |mk (a:Addr) (k:Int) (c:Case) (f g m l:Addr) (us:List V) (_:vs=[.ref a, .int k]) (_:kM H a c f g m l us) (_:c.xs.length≤40) (_:c.ys.length≤40) (_:∀H' b xs ps,ax H H'→H b=none→H' b=some (.lst xs)→eG H' xs ps→ps.length≤2000→iH c ps ps.length→Q (.ref b) H'):pE vs H Q u3
inductive pF(C:Addr)(vs:List V)(H:Hp)(Q:VK)(u3:XK):Prop
 |mk (a:Addr) (c:Case) (f g m l:Addr) (us:List V) (most:Nat) (_:vs=[.ref a]) (_:kM H a c f g m l us) (_:gW most c) (_:∀H' t,ax H H'→Y6 H' C t c→Q (.ref t) H'):pF C vs H Q u3
inductive pG(vs:List V)(H:Hp)(Q:VK)(u3:XK):Prop
 |mk (a:Addr) (us:List V) (ps:List Pr) (_:vs=[.ref a]) (_:H a=some (.lst us)) (_:eG H us ps) (_:Q (.bl true) H):pG vs H Q u3
inductive pH(vs:List V)(H:Hp)(Q:VK)(u3:XK):Prop
 |mk (a w:Addr) (c:Case) (f g m l:Addr) (us:List V) (ws:List V) (ps:List Pr) (_:vs=[.ref a, .ref w]) (_:kM H a c f g m l us) (_:G6 c) (_:H w=some (.lst ws)) (_:eG H ws ps) (_:ps.length≤10000) (_:nH c ps=true) (_:Q (.int (dq c ps (ps.length-1))) H):pH vs H Q u3
end QF
namespace L2
open PySem PySem.Spec PyProof.Rows PySem.W PySem.Calls
section
variable{pg:Program}{wd:World}{Ar:Around}{Rs:Result→Shared→Prop}{it:Addr}{fp wr:List Addr}{n:Nat}{Pv:Nat→Value→Prop}{Sv:Nat→Heap→Prop}
def vo:(toString "max"++toString ".loop":String)="max.loop":=XU
theorem Bm(Wk:Walks pg wd Ar.in1 it fp wr n Pv Sv)(bt:Nat→Nat→Bool)(cmp:CmpOf pg wd Ar.in1 .Gt Pv bt)(B:Addr)(nb:B∉fp)(dv:Value):
  ∀(k j:Nat)(st:Shared)(old:List Value)(c:Nat),n-j=k→j≤n→Sv j st.heap→((j=0∧old=[])∨∃vb,0<j∧old=[vb,vb]∧Pv (argBest bt (j-1)) vb)→
  st.heap.get? B=some {cls:= .type "list",dict:=none,data:= .seq old.toArray c,slots:=#[]}→
  (∀v h' tk,((n=0∧v=dv)∨(0<n∧Pv (argBest bt (n-1)) v))→(∀b o,b∉wr→b≠B→st.heap.get? b=some o→h'.get? b=some o)→Rs (.ok (.ret v)) {st with heap:=h',toks:=tk})→
  codeAny (model pg wd) Ar (.builtin "max.loop" ⟨[.ref it, .none, .ref B],[("default",dv)]⟩) Rs st:=by
 have nw:B∉wr:=fun z=>nb (Wk.sub _ z)
 intro k
 induction k with
 |zero=>
  intro j st old c ek lj sv ol eB fin;have ej:j=n:=by lia
  subst ej;refine codeAny_builtin F.entry_max_loop ?_;rw[Around.under_plainId F.plain_max_loop _];show wpAny _ Ar.in1 (seqItems? (.ref B)>>=_) _ _ st;refine wpAny_bind (wpAny_seqItems eB rfl ?_);show wpAny _ Ar.in1 (tryCatch (pyNext (.ref it)) _>>=_) _ _ st;refine wpAny_bind (wpAny_tryCatch (Wk.done st _ _ sv fun h' tk kp=>?_));rcases ol with⟨z0,rfl⟩|⟨vb,z0,rfl,pb⟩
  ·refine wpAny_bind (wpAny_rule (wpAny_pure ?_));exact fin dv _ tk (.inl ⟨z0,rfl⟩) fun b o hb _ e=>kp b o hb e
  ·have Ja:=kp B _ nw eB;show wpAny _ Ar.in1 (updateSeq B (fun _=>#[])>>=_) _ _ _;refine wpAny_bind ?_;refine wpAny_updateSeq Ja rfl (wpAny_bind (wpAny_letGo (wpAny_pure ?_)));exact fin vb _ tk (.inr ⟨z0,pb⟩) fun b o hb hB e=>(Heap.get?_update_other _ _ (Ne.symm hB)).trans (kp b o hb e)
 |succ k ih=>
  intro j st old c ek lj sv ol eB fin;have lt:j<n:=by lia
  refine codeAny_builtin F.entry_max_loop ?_;rw[Around.under_plainId F.plain_max_loop _];show wpAny _ Ar.in1 (seqItems? (.ref B)>>=_) _ _ st;refine wpAny_bind (wpAny_seqItems eB rfl ?_);show wpAny _ Ar.in1 (tryCatch (pyNext (.ref it)) _>>=_) _ _ st;refine wpAny_bind (wpAny_tryCatch (Wk.item j st _ _ lt sv fun v h' tk pv PZ kp=>?_));have Ja:=kp B _ nw eB;have up:∀(g:Array Value→Array Value)(b:Addr),b∈fp→∀o,h'.get? b=some o→(h'.update B (Obj.mapSeq g)).get? b=some o:=fun g b hb o e=>(Heap.get?_update_other _ _ (fun z:B=b=>nb (by rw[z];exact hb))).trans e
  rcases ol with⟨rfl,rfl⟩|⟨vb,z0,rfl,pb⟩
  ·show wpAny _ Ar.in1 (updateSeq B (fun _=>#[v,v])>>=_) _ _ _;refine wpAny_bind ?_;refine wpAny_updateSeq Ja rfl ?_;rw[vo];refine wpAny_pure ⟨plainId_quiet F.plain_max_loop _,ih 1 _ [v,v] _ (by lia) lt (Wk.frame _ _ _ PZ (up _)) (.inr ⟨v,XU,rfl,pv⟩) (Heap.get?_update_self _ Ja rfl) fun v' h2 Mg pf Mh=>?_⟩;exact fin v' h2 Mg pf fun b o hb hB e=>Mh b o hb hB ((Heap.get?_update_other _ _ (Ne.symm hB)).trans (kp b o hb e))
  ·obtain⟨i,rfl⟩:∃i,j=i+1:=⟨j-1,by lia⟩
   have pb:Pv (argBest bt i) vb:=pb;show wpAny _ Ar.in1 (tryCatch (holding [v,v] (richCompare .Gt v vb>>=_)) _>>=_) _ _ _;refine wpAny_bind (wpAny_tryCatch (wpAny_holding (wpAny_bind (cmp (i+1) (argBest bt i) v vb _ _ _ pv pb ?_))));refine wpAny_bind (wpAny_holding (wpAny_truthy_bool ?_));refine wpAny_bind (wpAny_letGo (wpAny_pure ?_));cases hb:bt (i+1) (argBest bt i)with
   |true=>
    simp only[if_true];refine wpAny_bind ?_;refine wpAny_updateSeq Ja rfl (wpAny_bind (wpAny_letGo ?_));rw[vo];refine wpAny_pure ⟨plainId_quiet F.plain_max_loop _,ih (i+2) _ [v,v] _ (by lia) lt (Wk.frame _ _ _ PZ (up _)) (.inr ⟨v,by lia,rfl,?_⟩) (Heap.get?_update_self _ Ja rfl) fun v' h2 Mg pf Mh=>?_⟩
    ·show Pv (argBest bt (i+1)) v;simp only[argBest,hb,if_true];exact pv
    ·exact fin v' h2 Mg pf fun b o hb hB e=>Mh b o hb hB ((Heap.get?_update_other _ _ (Ne.symm hB)).trans (kp b o hb e))
   |false=>
    simp only[Bool.false_eq_true,if_false];refine wpAny_bind (wpAny_letGo ?_);rw[vo];refine wpAny_pure ⟨plainId_quiet F.plain_max_loop _,ih (i+2) _ [vb,vb] c (by lia) lt PZ (.inr ⟨vb,by lia,rfl,?_⟩) Ja fun v' h2 Mg pf Mh=>?_⟩
    ·show Pv (argBest bt (i+1)) vb;simp only[argBest,hb,Bool.false_eq_true,if_false];exact pb
    ·exact fin v' h2 Mg pf fun b o hb hB e=>Mh b o hb hB (kp b o hb e)
theorem Bn(a d:Value):argsOk "max" ⟨[a],[("default",d)]⟩:=by unfold argsOk;kernel_rfl
end
section
variable{X:Cx}
def Jb:Option Int→V
 |none=> .cJ
 |some i=> .int i
theorem Zh{is:List Int}{us:List Value}(r:Vals (is.map V.int) us):us.length=is.length∧∀(j:Nat)(v:Value),us[j]?=some v→∃t,v= .int (is.getD j 0) t:=by
 have hl:=r.length;rw[List.length_map]at hl;refine⟨hl.symm,fun j v e=>?_⟩;have hj:j<is.length:=by have:=(Xv e).1;omega
 obtain⟨u,eu,ru⟩:=r.get (i:=j) (x:= .int is[j]) (by simp[hj]);rw[e]at eu;cases eu;obtain⟨t,rfl⟩:=ru;exact⟨t,by simp[hj]⟩
theorem Jc{is:List Int}{k:Nat}(hk:k<is.length)(h:∀j,j<is.length→is.getD j 0≤is.getD k 0):is.max?=some (is.getD k 0):=by
 rw[List.max?_eq_some_iff];refine⟨by simp[hk],fun b hb=>?_⟩;obtain⟨j,hj,rfl⟩:=List.mem_iff_getElem.mp hb;have:=h j hj;simpa[hj]using this
theorem Bo(hc:X.calm=true){pins:List (Addr×Obj)}{s:Shared}{σ:St}{H:Hp}{a:Addr}{is:List Int}{Q:VK}(I:Inv X pins σ H s)(hq:gZ X.K H a (is.map V.int))(q:Q (Jb is.max?) H):
  wpAny (model X.prog X.w) X.A (call (.builtin "max") [.ref a] [("default", .none)]) (EP X pins σ Q) X.xe s:=by
 obtain⟨its,rv,p,hz⟩:=I.list hq;obtain⟨hl,hv⟩:=Zh rv;refine wpAny_call (codeAny_call_builtin F.plain_max F.entry_max ?_);simp only[checkBuiltinCall,F.kind_max];have body:wpAny (model X.prog X.w) X.A.in1 (Builtin.«max» ⟨[.ref a],[("default", .none)]⟩) (fun fin s'=>match fin with
   | .done f=>(match (Except.ok f:Result)with| .ok (.ret v)=>EP X pins σ Q v s'| .ok _=>False| .error e=>X.xe e s')
   | .again c'=>c'.quiet=true∧codeAny (model X.prog X.w) X.A c' (fun r s'=>match r with| .ok (.ret v)=>EP X pins σ Q v s'| .ok _=>False| .error e=>X.xe e s') s') X.xe s:=by
  show wpAny _ X.A.in1 (Builtin.Builtins.bindParams "max" ["key","default"] 0 ⟨[],[("default", .none)]⟩>>=_) _ _ s;refine wpAny_bind (wpAny_of_eq (show Builtin.Builtins.bindParams "max" ["key","default"] 0 ⟨[],[("default", .none)]⟩=pure [none,some .none]from rfl) ?_);refine wpAny_bind (wpAny_pure (wpAny_bind (wpAny_pyIter_list p.isList ?_)));have d6:a≠s.heap.objs.size:=by
   obtain⟨o,n,e,_⟩:=p;exact Nat.ne_of_lt (Heap.lt_size e)
  refine wpAny_bind (wpAny_newObj_type ?_);rw[vo];have eS:(s.heap.push {cls:= .type "list_iterator",data:= .fields #[.ref a, .int 0 0]}).objs.size=s.heap.objs.size+1:=by simp[Heap.push]
  have Wk:=Walks.list (prog:=X.prog) (w:=X.w) (A:=X.A.in1) (show X.A.in1.handled=none from I.ok.hd hc) s.heap.objs.size a d6 its.toArray;refine wpAny_pure ⟨plainId_quiet F.plain_max_loop _,Bm (pg:=X.prog) (wd:=X.w) Wk _ (CmpOf.ints_gt (fun j=>is.getD j 0) fun j v e=>hv j v (by simpa using e)) (s.heap.push {cls:= .type "list_iterator",data:= .fields #[.ref a, .int 0 0]}).objs.size ?_ .none _ 0 _ [] 0 rfl (Nat.zero_le _) ?_ (.inl ⟨rfl,rfl⟩) ?_ fun v h' tk pf kp=>?_⟩
  ·intro z;simp only[List.mem_cons,List.not_mem_nil,or_false]at z;rw[eS]at z;rcases z with z|z
   ·exact Nat.succ_ne_self _ z
   ·obtain⟨o,n,e,_⟩:=p;have lt:=Heap.lt_size e;rw[←z]at lt;exact Nat.lt_irrefl _ (Nat.lt_of_succ_lt lt)
  ·exact⟨⟨_,XD (Heap.get?_push_size _ rfl),rfl,rfl⟩,p.isList.at fun o e=>XD (XD e)⟩
  ·exact Heap.get?_push_size _ rfl
  ·have keep:∀b o,s.heap.get? b=some o→h'.get? b=some o:=fun b o e=>by
    have lt:=Heap.lt_size e;refine kp b o (fun z=>?_) (fun z=>?_) (XD (XD e))
    ·have z:b=s.heap.objs.size:=by simpa using z
     rw[z]at lt;exact Nat.lt_irrefl _ lt
    ·rw[z,eS]at lt;exact Nat.lt_irrefl _ (Nat.lt_of_succ_lt lt)
   have sz:its.toArray.size=is.length:=by simp[hl]
   rcases pf with⟨h0,rfl⟩|⟨h0,pf⟩
   ·have:is=[]:=List.length_eq_zero_iff.mp XQ;subst this;exact⟨.cJ,H,I.kept (t':=tk) keep,rfl,q⟩
   ·rw[List.getElem?_toArray]at pf;obtain⟨t,rfl⟩:=hv _ v pf;obtain⟨b1,b2⟩:=argBest_gt (fun j=>is.getD j 0) (its.toArray.size-1);have em:=Jc (is:=is) (k:=argBest (fun i j=>decide (is.getD i 0>is.getD j 0)) (its.toArray.size-1)) (XT) fun j hj=>b2 j XQ
    rw[em]at q;exact⟨.int _,H,I.kept (t':=tk) keep,⟨t,rfl⟩,q⟩
 cases P0:Manifest.signature? "max" with
 |none=>exact wpAny_pure body
 |some sig=>
  have ha:=Bn (.ref a) .none;simp only[argsOk,P0]at ha;have h2:Bind.checkArgs "max" sig ⟨[.ref a],[("default", .none)]⟩=pure ():=ha;show wpAny _ X.A.in1 (Bind.checkArgs "max" sig ⟨[.ref a],[("default", .none)]⟩) _ _ s;rw[h2];exact wpAny_pure body
def Mi(K:Frag)(ta:TE):TE:=fun σ H Q=>ta σ H fun x H1=>∃(a:Addr)(is:List Int),x= .ref a∧gZ K H1 a (is.map V.int)∧Q (Jb is.max?) H1
theorem Fy(K:Frag){e:Expr}{ta:TE}{p pos kp cp:Pos}{j:Nat}(hc:X.calm=true)(hg:Gl X "max")(hm:X.mg "max"=none)(he:PE X e ta)(hs:starEach [e] X.env=[(false,eval e X.env)]:=by rfl)(hK:X.K=K:=by rfl):
  PE X (.Call (.Name "max" p) [e] [⟨some "default", .Constant .none j cp,kp⟩] pos) (Mi K ta):=by
 subst hK;intro pins s σ H Q I h;refine wpAny_Call_Name_kw (jR I hg hm (PyProof.Rows.Boot.«max») ?_ (XU) (XU));rw[hs];refine callWith_builtin_kwB (first:=[]) rfl rfl (evalArgs_kwB rfl ?_);refine Calls.spliced_cons ?_;show wpAny _ _ (eval e X.env) _ _ s;refine cy (he pins s σ H _ I h) fun v s1 ⟨x,H1,I1,r1,q1⟩=>Calls.spliced_nil ?_
 obtain⟨a,is,rfl,hq,q⟩:=q1;cases r1;refine kws_cons ?_;refine Constant_none ?_;refine kws_nil ?_;exact Bo hc I1 hq q
def tm:List V→List V→Bool
 |[],[]=>true
 |x::xs,y::ys=>uV x y&&tm xs ys
 | _,_=>false
theorem my:∀(xs ys:List V),((List.range (min xs.length ys.length)).all (fun j=>uV (xs.getD j .cJ) (ys.getD j .cJ))&&xs.length==ys.length)=tm xs ys
 |[],[]=>rfl
 |[],y::ys=>by simp[tm]
 |x::xs,[]=>by simp[tm]
 |x::xs,y::ys=>by
  have ih:=my xs ys;simp only[tm];rw[←ih];have e:min (x::xs).length (y::ys).length=min xs.length ys.length+1:=by simp[Nat.succ_min_succ]
  rw[e,List.range_succ_eq_map,List.all_cons,List.all_map];simp only[List.getD_cons_zero,Function.comp_def,List.getD_cons_succ,List.length_cons,Bool.and_assoc]
  congr 2
  simp
theorem Ys{A:Around}{s:Shared}{xs ys:List V}{its fe:List Value}(r:Vals xs its)(r2:Vals ys fe)(f1:xs.all qi=true)(f2:ys.all qi=true):
  ∀j (h1:j<its.toArray.size) (h2:j<fe.toArray.size),SeqAt.EqAt A s its.toArray[j] fe.toArray[j] ((fun j=>uV (xs.getD j .cJ) (ys.getD j .cJ)) j):=by
 refine Dr r r2 fun j x y hx hy=> .inl ⟨List.all_eq_true.mp f1 x (XF hx),List.all_eq_true.mp f2 y (XF hy),?_⟩
 simp[List.getD_eq_getElem?_getD,hx,hy]
open Classical in
end
theorem uy{K:Frag}{a:Addr}{xs:List V}{ls:List Str}{js:List Nat}{g:TG}{tt:TT}{te:TE}{σ:St}{H1:Hp}{D:Addr}{Q:VK}(Pv:Nat→List V→St→Hp→Prop)
  (h0:Pv 0 [] (kJ ls js σ) (upd H1 D (.lst []))) (hl:∀i ys σ H,i≤xs.length→Pv i ys σ H→gZ K H a xs)
  (hs:∀i x T ys σ H,xs[i]?=some x→Pv i ys σ H→H T=none→g (.ref T) σ (upd H T (.tup [.int i,x])) fun fI H3=>tt fI H3 fun b H4=>if b=true then te fI H4 fun y H5=>H5 D=some (.lst ys)∧ys.length<sizeLine∧Pv (i+1) (ys++[y]) fI (upd H5 D (.lst (ys++[y])))else Pv (i+1) ys fI H4)
  (hd:∀ys σ H,Pv xs.length ys σ H→Q (.ref D) H):
  rD (Kr K a) ls js g tt te σ H1 D Q:=
 nB (n:=xs.length) Pv h0 (fun i ys σ H hi p=>⟨xs,xs[i],hl i ys σ H (Nat.le_of_lt hi) p,by simp[hi]⟩) (fun ys σ H p=>⟨xs,hl _ ys σ H (Nat.le_refl _) p,Nat.le_refl _⟩)
  (fun i ys σ H x H2 hi p y=>by
   obtain⟨T,z,rfl,hT,rfl,hy⟩:=y;exact hs i z T ys σ H (hy xs (hl i ys σ H (Nat.le_of_lt hi) p)) p hT) hd
end L2
namespace QF
open PySem L2
def fF(S:Int→Prop):Option Int→Prop
 |none=>∀v,¬S v
 |some m=>S m∧∀v,S v→v≤m
theorem fF.iff{S T:Int→Prop}{a:Option Int}(ha:fF S a)(h:∀v,S v↔T v):fF T a:=by
 cases a with
 |none=>exact fun v hv=>ha v ((h v).mpr hv)
 |some m=>exact⟨(h m).mp ha.1,fun v hv=>ha.2 v ((h v).mpr hv)⟩
def bq:Option Int→Int→Option Int
 |none,_=>none
 |some v,p=>some (v-p)
theorem fF.less{S:Int→Prop}{a:Option Int}(ha:fF S a)(p:Int):fF (fun v=>∃u,S u∧v=u-p) (bq a p):=by
 cases a with
 |none=>exact fun v ⟨u,hu,_⟩=>ha u hu
 |some m=>
  refine⟨⟨m,ha.1,rfl⟩,?_⟩;rintro v ⟨u,hu,rfl⟩;have:=ha.2 u hu;omega
def nJ(l:List (Option Int)):Option Int:=(l.filterMap id).max?
theorem jX(l:List (Option Int)):fF (fun v=>some v∈l) (nJ l):=by
 have key:∀v,v∈l.filterMap id↔some v∈l:=fun v=>by
  rw[List.mem_filterMap];exact⟨fun⟨o,ho,eo⟩=>by have eo:o=some v:=eo;rw[eo]at ho;exact ho,fun h=>⟨some v,h,rfl⟩⟩
 unfold nJ;cases e:(l.filterMap id).max? with
 |none=>
  rw[List.max?_eq_none_iff]at e;intro v hv;have:=(key v).mpr hv;rw[e]at this;cases this
 |some m=>
  rw[List.max?_eq_some_iff]at e;exact⟨(key m).mp e.1,fun v hv=>e.2 v ((key v).mpr hv)⟩
theorem fF.RY{S T:Int→Prop}{a:Option Int}(ha:fF S a)(h1:∀v,S v→T v)(h2:∀v,T v→∃u,S u∧v≤u):fF T a:=by
 cases a with
 |none=>
  intro v hv;obtain⟨u,hu,_⟩:=h2 v hv;exact ha u hu
 |some m=>
  refine⟨h1 m ha.1,fun v hv=>?_⟩;obtain⟨u,hu,hle⟩:=h2 v hv;have:=ha.2 u hu;omega
theorem Zx{S1 S2 S3:Int→Prop}{a b c:Option Int}(h1:fF S1 a)(h2:fF S2 b)(h3:fF S3 c):fF (fun v=>S1 v∨S2 v∨S3 v) (nJ [a,b,c]):=by
 refine(jX [a,b,c]).RY (fun v hv=>?_) (fun v hv=>?_)
 ·simp only[List.mem_cons,List.not_mem_nil,or_false]at hv;rcases hv with e|e|e
  ·rw[←e]at h1;exact .inl h1.1
  ·rw[←e]at h2;exact .inr (.inl h2.1)
  ·rw[←e]at h3;exact .inr (.inr h3.1)
 ·have one:∀{S:Int→Prop}{o:Option Int},fF S o→S v→o∈[a,b,c]→∃u,some u∈[a,b,c]∧v≤u:=fun{S o} hm hs ho=>by
   cases o with
   |none=>exact absurd hs (hm v)
   |some m=>exact⟨m,ho,hm.2 v hs⟩
  rcases hv with hs|hs|hs
  ·exact one h1 hs XN
  ·exact one h2 hs XN
  ·exact one h3 hs XN
def jC(ps:List Pr):Pr:=pr ps (ps.length-1)
def wW(c:Case)(ps:List Pr):Int:=dq c ps (ps.length-1)
def nK(c:Case)(shut:List Pr)(ps:List Pr):Prop:=nH c ps=true∧∀p∈ps,p∉shut
def uz(c:Case)(shut:List Pr)(p:Pr):Option Int:=if p∈shut then none else c.pw p
theorem mz{ps:List Pr}{p:Pr}:jC (ps++[p])=p:=by
 unfold jC;rw[List.length_append];exact qY
theorem rL{c:Case}{ps:List Pr}{p:Pr}:∀{k:Nat},k<ps.length→dq c (ps++[p]) k=dq c ps k
 |0,h=>by simp only[dq];rw[gC h]
 |k+1,h=>by simp only[dq];rw[gC h,gC (by omega:k<ps.length),rL (by omega:k<ps.length)]
theorem Jd{c:Case}{p:Pr}{w:Int}(h:c.pw p=some w):wW c [p]=w:=by
 simp[wW,dq,pr,h]
theorem Fz{c:Case}{ps:List Pr}{p:Pr}{w:Int}(d6:ps≠[])(h:c.pw p=some w):wW c (ps++[p])=w+wW c ps-c.gap (jC ps) p:=by
 have hp:0<ps.length:=List.length_pos_iff.mpr d6;obtain⟨k,hk⟩:∃k,ps.length=k+1:=⟨ps.length-1,XT⟩
 have e1:(ps++[p]).length-1=k+1:=by rw[List.length_append];simp;omega
 unfold wW jC;rw[e1];have e2:pr (ps++[p]) (k+1)=p:=by rw[←hk];exact qY
 simp only[dq,e2,h,Option.getD_some];rw[gC (by omega:k<ps.length),rL (by omega:k<ps.length),hk];rfl
theorem nK.one{c:Case}{shut:List Pr}{p:Pr}{w:Int}(h:uz c shut p=some w):nK c shut [p]:=by
 unfold uz at h;split at h
 ·cases h
 ·rename_i hs
  refine⟨lE XN fun k hk=>?_,fun q hq=>?_⟩
  ·have:k=0:=by simp at hk;exact hk
   subst this;simp[gm,pr,h]
  ·have:q=p:=by simpa using hq
   rw[this];exact hs
theorem nK.snoc{c:Case}{shut:List Pr}{ps:List Pr}{p:Pr}{w:Int}(o:nK c shut ps)(h:uz c shut p=some w)(st:stepOk (jC ps) p=true):nK c shut (ps++[p]):=by
 obtain⟨d6,hg⟩:=jW o.1;unfold uz at h;split at h
 ·cases h
 ·rename_i hs
  refine⟨lE XN ?_,fun q hq=>?_⟩
  ·rw[List.length_append];exact ux hg (by rw[h];rfl) (.inr st)
  ·rcases List.mem_append.mp hq with hq|hq
   ·exact o.2 q hq
   ·have:q=p:=by simpa using hq
    rw[this];exact hs
theorem Zv{c:Case}{ps:List Pr}{p:Pr}{k:Nat}(h:k<ps.length):gm c (ps++[p]) k=gm c ps k:=by
 simp only[gm];rw[gC h,gC (by omega:k-1<ps.length)]
theorem nK.split{c:Case}{shut:List Pr}{ps:List Pr}(o:nK c shut ps):∃qs,ps=qs++[jC ps]∧(∃w,uz c shut (jC ps)=some w)∧(qs=[]∨(nK c shut qs∧stepOk (jC qs) (jC ps)=true)):=by
 obtain⟨d6,hg⟩:=jW o.1;obtain⟨qs,p,rfl⟩:∃qs p,ps=qs++[p]:=⟨ps.dropLast,ps.getLast d6,(List.dropLast_concat_getLast d6).symm⟩
 rw[mz];have gl:=hg qs.length XN;simp only[gm,qY,Bool.and_eq_true]at gl;refine⟨qs,rfl,?_,?_⟩
 ·obtain⟨w,hw⟩:=Option.isSome_iff_exists.mp gl.1;have:=o.2 p XN;exact⟨w,by simp[uz,this,hw]⟩
 ·by_cases e:qs=[]
  ·exact .inl e
  ·have hp:0<qs.length:=List.length_pos_iff.mpr e;refine .inr ⟨⟨lE e fun k hk=>?_,fun q hq=>o.2 q (List.mem_append_left _ hq)⟩,?_⟩
   ·have:=hg k (by simp;omega);rwa[Zv hk]at this
   ·have g2:=gl.2;simp only[Bool.or_eq_true,decide_eq_true_eq]at g2;rcases g2 with g2|g2
    ·omega
    ·rw[gC (by omega:qs.length-1<qs.length)]at g2;exact g2
def FA:Option Int→Option Int→Option Int
 |none,_=>none
 |some w,none=>some w
 |some w,some b=>if b<0 then some w else some (w+b)
def Bq(f:Nat→Nat→Option Int)(o p:Int):Nat→Nat→Option Int
 |0,_=>none
 | _+1,0=>none
 |i+1,j+1=>nJ [FA (f i j) (Bq f o p i j),bq (Bq f o p i (j+1)) o,bq (Bq f o p (i+1) j) p]
termination_by i j=>(i,j)
def dh(f:Nat→Nat→Option Int)(o p:Int)(i j:Nat):Option Int:=FA (f i j) (Bq f o p i j)
def kx(c:Case)(shut:List Pr)(i j:Nat):Option Int:=uz c shut ((i:Int),(j:Int))
theorem ZA{q p:Pr}:stepOk q p=true↔q.1<p.1∧q.2<p.2:=by simp[stepOk]
theorem FC(o:Option Int):Jb o=bx o:=by cases o<;>rfl
def fN(H:Hp)(vs:List V)(L:List (List Pr)):Prop:=vs.length=L.length∧∀(k:Nat)(ps:List Pr),L[k]?=some ps→∃a us,vs[k]?=some (V.ref a)∧H a=some (.lst us)∧eG H us ps
def Mj(l:Addr)(vs:List V):Prop:=∀k:Nat,vs[k]?≠some (V.ref l)
theorem fN.nil{H:Hp}:fN H [] []:=⟨rfl,fun k ps e=>by simp at e⟩
theorem fN.same{H H':Hp}{vs:List V}{L:List (List Pr)}(w:fN H vs L)(s:ax H H'):fN H' vs L:=⟨w.1,fun k ps e=>let ⟨a,us,h1,h2,h3⟩:=w.2 k ps e;⟨a,us,h1,s _ _ h2,h3.same s⟩⟩
theorem fN.put{H:Hp}{vs:List V}{L:List (List Pr)}{l:Addr}{zs:List V}{o:HO}(w:fN H vs L)(n:Mj l vs)(h:H l=some (.lst zs)):fN (upd H l o) vs L:=⟨w.1,fun k ps e=>by
 obtain⟨a,us,h1,h2,h3⟩:=w.2 k ps e;refine⟨a,us,h1,?_,h3.cF (fg.lst h)⟩;rw[aj (fun z=>n k (by rw[h1,z]))];exact h2⟩
theorem fN.append{H:Hp}{vs ws:List V}{L M:List (List Pr)}(a:fN H vs L)(b:fN H ws M):fN H (vs++ws) (L++M):=by
 refine⟨by simp[a.1,b.1],fun i p e=>?_⟩;by_cases h:i<L.length
 ·rw[List.getElem?_append_left h]at e;obtain⟨x,us,h1,h2⟩:=a.2 i p e;exact⟨x,us,by rw[List.getElem?_append_left (by rw[a.1];exact h)];exact h1,h2⟩
 ·rw[List.getElem?_append_right XQ]at e;obtain⟨x,us,h1,h2⟩:=b.2 _ p e;exact⟨x,us,by rw[List.getElem?_append_right (by rw[a.1];omega),a.1];exact h1,h2⟩
theorem fN.one{H:Hp}{a:Addr}{us:List V}{ps:List Pr}(h:H a=some (.lst us))(P:eG H us ps):fN H [.ref a] [ps]:=by
 refine⟨rfl,fun i q e=>?_⟩
 match i,e with
 |0,e=>cases e;exact⟨a,us,rfl,h,P⟩
 |i+1,e=>simp at e
def cS(m:Nat)(f:Nat→Option Int):List V:=(List.range m).map fun j=>bx (f j)
theorem cT(m:Nat)(f:Nat→Option Int):(cS m f).length=m:=by simp[cS]
theorem cU{m j:Nat}{f:Nat→Option Int}(h:j<m):(cS m f)[j]?=some (bx (f j)):=by simp[cS,h]
theorem pI(m:Nat)(f:Nat→Option Int):cS (m+1) f=cS m f++[bx (f m)]:=by simp[cS,List.range_succ]
structure iI(H:Hp)(as:List Addr)(f:Nat→Nat→Option Int)(n m:Nat):Prop where
 len:as.length=n
 row:∀(i:Nat)(a:Addr),as[i]?=some a→H a=some (.lst (cS m (f i)))
theorem iI.same{H H':Hp}{as:List Addr}{f:Nat→Nat→Option Int}{n m:Nat}(t:iI H as f n m)(s:ax H H'):iI H' as f n m:=⟨t.len,fun i a e=>s _ _ (t.row i a e)⟩
theorem iI.at{H:Hp}{as:List Addr}{f:Nat→Nat→Option Int}{n m i:Nat}(t:iI H as f n m)(h:i<n):∃a,as[i]?=some a∧(as.map V.ref)[i]?=some (.ref a)∧H a=some (.lst (cS m (f i))):=by
 have hi:i<as.length:=by rw[t.len];exact h
 refine⟨as[i],by simp[hi],by simp[hi],t.row i _ (by simp[hi])⟩
def Tab(H H':Hp)(e:Addr)(f:Nat→Nat→Option Int)(n m:Nat):Prop:=∃as:List Addr,H' e=some (.lst (as.map V.ref))∧H e=none∧iI H' as f n m∧∀a∈as,H a=none
structure Af(K:W.Frag)(C:Addr):Prop where
 cl:uN K C
 out:bS K C "out"
 into:bS K C "into"
 jY:bS K C "ending"
 iZ:bS K C "brought"
def gf(o p:Int)(e b:Addr):List (Str×V):=[("out", .int o),("into", .int p),("ending", .ref e),("brought", .ref b)]
theorem G7(o p:Int)(e b:Addr):(gf o p e b).lookup ("out":Str)=some (V.int o):=by kernel_rfl
theorem Ds(o p:Int)(e b:Addr):(gf o p e b).lookup ("into":Str)=some (V.int p):=by kernel_rfl
theorem gO(o p:Int)(e b:Addr):(gf o p e b).lookup ("ending":Str)=some (V.ref e):=by kernel_rfl
theorem gq(o p:Int)(e b:Addr):(gf o p e b).lookup ("brought":Str)=some (V.ref b):=by kernel_rfl
theorem Dt(o p:Int)(e b:Addr):(gf o p e b).lookup ("brought_behind":Str)=none:=by kernel_rfl
theorem Ml(o p:Int)(e b:Addr):bb "brought" (.ref b) (bb "ending" (.ref e) (bb "into" (.int p) (bb "out" (.int o) [])))=gf o p e b:=by kernel_rfl
def qB(f g:Nat→Option Int)(o p:Int):Nat→Option Int
 |0=>none
 |j+1=>nJ [f j,bq (g (j+1)) o,bq (qB f g o p j) p]
theorem Ag(f:Nat→Nat→Option Int)(o p:Int)(i:Nat):∀j,qB (dh f o p i) (Bq f o p i) o p j=Bq f o p (i+1) j
 |0=>by unfold qB Bq;rfl
 |j+1=>by
  rw[qB,Bq,Ag f o p i j];rfl
theorem hU(f:Nat→Nat→Option Int)(o p:Int)(j:Nat):Bq f o p 0 j=none:=by unfold Bq;rfl
inductive kN(vs:List V)(H:Hp)(Q:VK)(u3:XK):Prop
 |mk (a:Addr) (os:List (Option Int)) (_:vs=[.ref a]) (_:H a=some (.lst (os.map bx))) (_:os.length≤1000) (_:∀H',ax H H'→Q (bx (nJ os)) H'):kN vs H Q u3
inductive vp(vs:List V)(H:Hp)(Q:VK)(u3:XK):Prop
 |mk (o:Option Int) (p:Int) (_:vs=[bx o, .int p]) (_:Q (bx (bq o p)) H):vp vs H Q u3
inductive Yd(vs:List V)(H:Hp)(Q:VK)(u3:XK):Prop
 |mk (w b:Option Int) (_:vs=[bx w,bx b]) (_:Q (bx (FA w b)) H):Yd vs H Q u3
inductive pJ(C:Addr)(vs:List V)(H:Hp)(Q:VK)(u3:XK):Prop
 |mk (x e a dx te tb:Addr) (o p:Int) (m:Nat) (f g:Nat→Option Int) (_:vs=[.ref x, .ref e, .ref a]) (_:H x=some (.ins C dx (gf o p te tb))) (_:H e=some (.lst (cS m f))) (_:H a=some (.lst (cS (m+1) g))) (_:m≤1000) (_:∀H' r,ax H H'→H r=none→H' r=some (.lst (cS (m+1) (qB f g o p)))→Q (.ref r) H'):pJ C vs H Q u3
def Du(H:Hp)(v:V)(shut:List Pr):Prop:=(v= .cJ∧shut=[])∨∃l us,v= .ref l∧H l=some (.lst us)∧eG H us shut
def a8(p:Pr):List Key:=[.inl p.1, .inl p.2]
def Ah(kvs:List (List Key×V))(shut:List Pr):Prop:=∀p:Pr,(bh kvs (a8 p)).isSome=decide (p∈shut)
inductive vt(vs:List V)(H:Hp)(Q:VK)(u3:XK):Prop
 |mk (v:V) (shut:List Pr) (_:vs=[v]) (_:Du H v shut) (_:shut.length≤1000) (_:∀H' d kvs,ax H H'→H' d=some (.dT kvs)→Ah kvs shut→Q (.ref d) H'):vt vs H Q u3
theorem eG.last{H:Hp}{xs:List V}{ps:List Pr}(P:eG H xs ps)(d6:ps≠[]):∃t,qV xs (-1)=some (.ref t)∧H t=some (.tup [.int (jC ps).1, .int (jC ps).2]):=by
 have hp:0<ps.length:=List.length_pos_iff.mpr d6;have hl:=P.1;obtain⟨t,h1,h2⟩:=P.Kv (k:=ps.length-1) (by lia);refine⟨t,?_,h2⟩;have e:xs=xs.take (ps.length-1)++[V.ref t]:=by
  apply List.ext_getElem?;intro n;by_cases hn:n<ps.length-1
  ·rw[List.getElem?_append_left (by rw[List.length_take];lia),List.getElem?_take,XH hn]
  ·rw[List.getElem?_append_right (by rw[List.length_take];lia),List.length_take];by_cases ub:n=ps.length-1
   ·subst ub;rw[h1];have:ps.length-1-min (ps.length-1) xs.length=0:=by lia
    rw[this];rfl
   ·rw[List.getElem?_eq_none XR,List.getElem?_eq_none (by simp;lia)]
 rw[e];exact rB _ _
theorem Ai(p q:Pr):tm (ju p) (ju q)=decide (p=q):=by
 simp only[ju,tm,uV,Bool.and_true];rw[Bool.eq_iff_iff];simp[Prod.ext_iff]
theorem Dv{m j:Nat}{f:Nat→Option Int}{u:Option Int}:(cS m f).set j (bx u)=cS m (fun k=>if k=j then u else f k):=by
 apply List.ext_getElem?;intro k;by_cases hk:k<m
 ·rw[cU hk];by_cases e:j=k
  ·subst e;rw[List.getElem?_set_self (by rw[cT];exact hk)];simp
  ·rw[List.getElem?_set_ne e,cU hk];have:¬k=j:=fun z=>e z.symm
   simp[this]
 ·rw[List.getElem?_eq_none (by rw[List.length_set,cT];omega),List.getElem?_eq_none (by rw[cT];omega)]
end QF
namespace L2
open PySem PySem.Spec PyProof.Rows PySem.W PySem.Calls
section
variable{X:Cx}{tg:Expr}
end
section
variable{X:Cx}
end
section
variable{X:Cx}
end
end L2
namespace QF
open PySem L2
def P7(fs:List Form)(x t:Str):Bool:=decide (x=t)||fs.any fun f=>(decide (f.1=x)&&decide (f.2.1=t))||(decide (f.1=t)&&decide (f.2.1=x))
def Mm(fs:List Form)(t:Str):List Str:=[t]++(fs.filter fun f=>decide (f.1=t)).map (·.2.1)++(fs.filter fun f=>decide (f.2.1=t)).map (·.1)
def G8(p:Nat→Bool):Nat→Int
 |0=> -1
 |n+1=>if p n then(n:Int)else G8 p n
structure NS where
 ws:List Str
 ts:List Str
 fs:List Form
 span:Nat
def NS.p(c:NS)(t:Str)(i:Nat):Bool:=match c.ws[i]? with
 |some x=>P7 c.fs x t
 |none=>false
def NS.Mn(c:NS)(n:Nat):List Int:=c.ts.map fun t=>G8 (c.p t) n
def NS.low(c:NS)(n:Nat):Int:=((c.Mn n).min?).getD (-1)
def NS.at_(c:NS)(h:Nat):Option Pr:=if c.low h<c.low (h+1)∧(h:Int)-c.low (h+1)<c.span then some (c.low (h+1),(h:Int))else none
def NS.told(c:NS)(k:Nat):List Pr:=(List.range k).filterMap c.at_
def NS.holds(c:NS)(l h:Nat):Bool:=c.ts.all fun t=>(((c.ws.map fun x=>decide (x∈Mm c.fs t)).drop l).take (h-l)).any id
def NS.ok(c:NS)(l h:Nat):Bool:=c.holds l (h+1)&&!(c.holds (l+1) (h+1))&&!(c.holds l h)
def NS.row(c:NS)(l k:Nat):List Pr:=(List.range k).filterMap fun d=>if c.ok l (l+d)=true then some ((l:Int),((l+d:Nat):Int))else none
def NS.WV(c:NS)(i:Nat):List Pr:=(List.range i).flatMap fun l=>c.row l (min c.ws.length (l+c.span)-l)
end QF
namespace L2
open PySem PySem.Spec PyProof.Rows PySem.W PySem.Calls
section
variable{X:Cx}{tg:Expr}
end
section
variable{pg:Program}{wd:World}{Ar:Around}{sh:Shared}{Rs:Result→Shared→Prop}{it:Addr}{fp wr:List Addr}{Gn:Array GenState→Array GenState→Prop}{n:Nat}{Pv:Nat→Value→Prop}{Sv:Nat→Shared→Prop}
end
section
variable{X:Cx}
end
end L2
namespace QF
open PySem L2
def X5(q p:Pr):Prop:=q.1<p.1∧q.2<p.2
def gp(o i:Int)(q p:Pr):Int:=o*(p.1-q.1-1)+i*(p.2-q.2-1)
structure Wy(g:Pr→Option Int)(ps:List Pr):Prop where
 ne:ps≠[]
 ok:∀p∈ps,(g p).isSome=true
 up:ps.Pairwise X5
def vl(g:Pr→Option Int)(o i:Int):List Pr→Int
 |[]=>0
 |[p]=>(g p).getD 0
 |p::q::r=>(g p).getD 0-gp o i p q+vl g o i (q::r)
def lQ(ps:List Pr):Pr:=ps.headD (0,0)
def lstP(ps:List Pr):Pr:=ps.getLastD (0,0)
theorem dA{ps:List Pr}{p:Pr}:lstP (ps++[p])=p:=by simp[lstP]
theorem vw(g:Pr→Option Int)(o i:Int)(q:Pr)(bs:List Pr):∀(as:List Pr),vl g o i (as++q::bs)=vl g o i (as++[q])+vl g o i (q::bs)-(g q).getD 0
 |[]=>by simp only[List.nil_append,vl];omega
 |[a]=>by
  simp only[List.cons_append,List.nil_append,vl];omega
 |a::b::r=>by
  have ih:=vw g o i q bs (b::r);simp only[List.cons_append]at ih⊢;simp only[vl];rw[ih];omega
theorem nL(g:Pr→Option Int)(o i:Int){ps:List Pr}(d6:ps≠[])(p:Pr):vl g o i (ps++[p])=(g p).getD 0+vl g o i ps-gp o i (lstP ps) p:=by
 obtain⟨qs,q,rfl⟩:∃qs q,ps=qs++[q]:=⟨ps.dropLast,ps.getLast d6,(List.dropLast_concat_getLast d6).symm⟩
 rw[dA,List.append_assoc];have:=vw g o i q [p] qs;simp only[List.singleton_append]at this⊢;rw[this];simp only[vl];omega
theorem Wy.one{g:Pr→Option Int}{p:Pr}(h:(g p).isSome=true):Wy g [p]:=by
 refine⟨XX,fun q hq=>?_,XX⟩;have e:q=p:=by simpa using hq
 rw[e];exact h
theorem pK{a b c:Pr}(h1:X5 a b)(h2:X5 b c):X5 a c:=⟨Int.lt_trans h1.1 h2.1,Int.lt_trans h1.2 h2.2⟩
theorem pw_lst{ps:List Pr}(h:ps.Pairwise X5){q:Pr}(hq:q∈ps):q=lstP ps∨X5 q (lstP ps):=by
 have d6:ps≠[]:=fun z=>by rw[z]at hq;cases hq
 obtain⟨qs,x,rfl⟩:∃qs x,ps=qs++[x]:=⟨ps.dropLast,ps.getLast d6,(List.dropLast_concat_getLast d6).symm⟩
 rw[dA];rcases List.mem_append.mp hq with hq|hq
 ·exact .inr ((List.pairwise_append.mp h).2.2 q hq x (XX))
 ·exact .inl (by simpa using hq)
theorem Wy.snoc{g:Pr→Option Int}{ps:List Pr}{p:Pr}(w:Wy g ps)(h:(g p).isSome=true)(s:X5 (lstP ps) p):Wy g (ps++[p]):=by
 refine⟨XX,fun q hq=>?_,List.pairwise_append.mpr ⟨w.up,XX,fun a ha b hb=>?_⟩⟩
 ·rcases List.mem_append.mp hq with hq|hq
  ·exact w.ok q hq
  ·have:q=p:=by simpa using hq
   rw[this];exact h
 ·have:b=p:=by simpa using hb
  rw[this];rcases pw_lst w.up ha with e|e
  ·rw[e];exact s
  ·exact pK e s
theorem Wy.split{g:Pr→Option Int}{ps:List Pr}(w:Wy g ps):∃qs,ps=qs++[lstP ps]∧(∃v,g (lstP ps)=some v)∧(qs=[]∨(Wy g qs∧X5 (lstP qs) (lstP ps))):=by
 obtain⟨qs,x,rfl⟩:∃qs x,ps=qs++[x]:=⟨ps.dropLast,ps.getLast w.ne,(List.dropLast_concat_getLast w.ne).symm⟩
 rw[dA];refine⟨qs,rfl,Option.isSome_iff_exists.mp (w.ok x (XX)),?_⟩;by_cases e:qs=[]
 ·exact .inl e
 ·have h:=List.pairwise_append.mp w.up;refine .inr ⟨⟨e,fun q hq=>w.ok q (List.mem_append_left _ hq),h.1⟩,h.2.2 _ ?_ x (XX)⟩;obtain⟨rs,y,rfl⟩:∃rs y,qs=rs++[y]:=⟨qs.dropLast,qs.getLast e,(List.dropLast_concat_getLast e).symm⟩
  rw[dA];simp
theorem cV{ps:List Pr}(h:ps≠[]):lstP ps∈ps:=by
 obtain⟨rs,y,rfl⟩:∃rs y,ps=rs++[y]:=⟨ps.dropLast,ps.getLast h,(List.dropLast_concat_getLast h).symm⟩
 rw[dA];simp
def lf(f:Nat→Nat→Option Int)(p:Pr):Option Int:=if 0≤p.1∧0≤p.2 then f p.1.toNat p.2.toNat else none
theorem pL(f:Nat→Nat→Option Int)(i j:Nat):lf f ((i:Int),(j:Int))=f i j:=by simp[lf]
theorem Aj{f:Nat→Nat→Option Int}{p:Pr}(h:(lf f p).isSome=true):∃i j:Nat,p=((i:Int),(j:Int)):=by
 unfold lf at h;split at h
 ·rename_i hh
  exact⟨p.1.toNat,p.2.toNat,Prod.ext (by simp;omega) (by simp;omega)⟩
 ·cases h
def NQ(f:Nat→Nat→Option Int)(o p:Int)(i j:Nat)(v:Int):Prop:=∃ps,Wy (lf f) ps∧(lstP ps).1<(i:Int)∧(lstP ps).2<(j:Int)∧v=vl (lf f) o p ps-(o*((i:Int)-1-(lstP ps).1)+p*((j:Int)-1-(lstP ps).2))
def NR(f:Nat→Nat→Option Int)(o p:Int)(q:Pr)(v:Int):Prop:=∃ps,Wy (lf f) ps∧lstP ps=q∧v=vl (lf f) o p ps
theorem Ak{f:Nat→Nat→Option Int}{o p:Int}{i j:Nat}{b:Option Int}(h:fF (NQ f o p i j) b):fF (NR f o p ((i:Int),(j:Int))) (FA (f i j) b):=by
 cases e:f i j with
 |none=>
  rintro v ⟨ps,w,el,rfl⟩;obtain⟨qs,_,⟨x,hx⟩,_⟩:=w.split;rw[el,pL,e]at hx;cases hx
 |some x=>
  have eg:lf f ((i:Int),(j:Int))=some x:=by rw[pL];exact e
  have YT:∀ps,Wy (lf f) ps→lstP ps=((i:Int),(j:Int))→vl (lf f) o p ps=x∨∃v,NQ f o p i j v∧vl (lf f) o p ps=x+v:=fun ps w el=>by
   obtain⟨qs,eq,_,hq⟩:=w.split;rw[el]at eq hq;rcases hq with rfl|⟨wq,st⟩
   ·left
    rw[eq];simp[vl,eg]
   ·right
    refine⟨_,⟨qs,wq,st.1,st.2,rfl⟩,?_⟩;rw[eq,nL _ _ _ wq.ne,eg];simp only[gp,Option.getD_some];have e1:(i:Int)-(lstP qs).1-1=(i:Int)-1-(lstP qs).1:=XT;have e2:(j:Int)-(lstP qs).2-1=(j:Int)-1-(lstP qs).2:=XT;rw[e1,e2];omega
  have alone:NR f o p ((i:Int),(j:Int)) x:=⟨[((i:Int),(j:Int))], .one (by rw[eg];rfl),rfl,by simp[vl,eg]⟩
  have more:∀v,NQ f o p i j v→NR f o p ((i:Int),(j:Int)) (x+v):=by
   rintro v ⟨ps,w,l1,l2,rfl⟩;refine⟨ps++[((i:Int),(j:Int))],w.snoc (by rw[eg];rfl) ⟨l1,l2⟩,dA,?_⟩;rw[nL _ _ _ w.ne,eg];simp only[gp,Option.getD_some];have e1:(i:Int)-(lstP ps).1-1=(i:Int)-1-(lstP ps).1:=XT;have e2:(j:Int)-(lstP ps).2-1=(j:Int)-1-(lstP ps).2:=XT;rw[e1,e2];omega
  cases b with
  |none=>
   refine⟨alone,?_⟩;rintro v ⟨ps,w,el,rfl⟩;rcases YT ps w el with h1|⟨u,hu,_⟩
   ·omega
   ·exact absurd hu (h u)
  |some m=>
   simp only[FA];split
   ·refine⟨alone,?_⟩;rintro v ⟨ps,w,el,rfl⟩;rcases YT ps w el with h1|⟨u,hu,h2⟩
    ·omega
    ·have:=h.2 u hu;omega
   ·refine⟨more m h.1,?_⟩;rintro v ⟨ps,w,el,rfl⟩;rcases YT ps w el with h1|⟨u,hu,h2⟩
    ·omega
    ·have:=h.2 u hu;omega
theorem Yo{f:Nat→Nat→Option Int}{ps:List Pr}(w:Wy (lf f) ps):0≤(lstP ps).1∧0≤(lstP ps).2:=by
 obtain⟨a,b,e⟩:=Aj (w.ok _ (cV w.ne));rw[e];simp
theorem fG(f:Nat→Nat→Option Int)(o p:Int):∀i j:Nat,fF (NQ f o p i j) (Bq f o p i j)
 |0,j=>by
  unfold Bq;rintro v ⟨ps,w,l1,_⟩;have:=Yo w;simp at l1;omega
 |i+1,0=>by
  unfold Bq;rintro v ⟨ps,w,_,l2,_⟩;have:=Yo w;simp at l2;omega
 |i+1,j+1=>by
  rw[Bq];refine(Zx (Ak (fG f o p i j)) ((fG f o p i (j+1)).less o) ((fG f o p (i+1) j).less p)).iff fun v=>?_
  constructor
  ·rintro(⟨ps,w,el,rfl⟩|⟨u,⟨ps,w,l1,l2,rfl⟩,rfl⟩|⟨u,⟨ps,w,l1,l2,rfl⟩,rfl⟩)
   ·refine⟨ps,w,by rw[el];simp;omega,by rw[el];simp;omega,?_⟩;rw[el];have e1:((i+1:Nat):Int)-1-(i:Int)=0:=XT;have e2:((j+1:Nat):Int)-1-(j:Int)=0:=XT;simp only[e1,e2,Int.mul_zero];omega
   ·refine⟨ps,w,XT,XT,?_⟩;have e1:((i+1:Nat):Int)-1-(lstP ps).1=((i:Int)-1-(lstP ps).1)+1:=XT;rw[e1,Int.mul_add];omega
   ·refine⟨ps,w,XT,XT,?_⟩;have e1:((j+1:Nat):Int)-1-(lstP ps).2=((j:Int)-1-(lstP ps).2)+1:=XT;rw[e1,Int.mul_add];omega
  ·rintro⟨ps,w,l1,l2,rfl⟩;by_cases h1:(lstP ps).1<(i:Int)
   ·right;left
    refine⟨_,⟨ps,w,h1,l2,rfl⟩,?_⟩;have e1:((i+1:Nat):Int)-1-(lstP ps).1=((i:Int)-1-(lstP ps).1)+1:=XT;rw[e1,Int.mul_add];omega
   ·by_cases h2:(lstP ps).2<(j:Int)
    ·right;right
     refine⟨_,⟨ps,w,l1,h2,rfl⟩,?_⟩;have e1:((j+1:Nat):Int)-1-(lstP ps).2=((j:Int)-1-(lstP ps).2)+1:=XT;rw[e1,Int.mul_add];omega
    ·left
     have a1:(lstP ps).1=(i:Int):=XT;have a2:(lstP ps).2=(j:Int):=XT;refine⟨ps,w,Prod.ext a1 a2,?_⟩;have e1:((i+1:Nat):Int)-1-(lstP ps).1=0:=XT;have e2:((j+1:Nat):Int)-1-(lstP ps).2=0:=XT;simp only[e1,e2,Int.mul_zero];omega
termination_by i j=>(i,j)
theorem rM(f:Nat→Nat→Option Int)(o p:Int)(i j:Nat):fF (NR f o p ((i:Int),(j:Int))) (dh f o p i j):=Ak (fG f o p i j)
def fr(f:Nat→Nat→Option Int)(n m:Nat)(a b:Nat):Option Int:=if a<n∧b<m then f (n-1-a) (m-1-b)else none
def B8(f:Nat→Nat→Option Int)(n m:Nat):Prop:=∀i j,(f i j).isSome=true→i<n∧j<m
theorem Yi(c:Case)(shut:List Pr)(p:Pr):lf (kx c shut) p=uz c shut p:=by
 unfold lf;split
 ·rename_i h
  unfold kx
  congr 1
  exact Prod.ext (by simp;omega) (by simp;omega)
 ·rename_i h
  unfold uz;split
  ·rfl
  ·exact(c.pw_out XQ).symm
theorem Je(c:Case)(shut:List Pr):B8 (kx c shut) c.xs.length c.ys.length:=fun i j h=>by
 unfold kx uz at h;split at h
 ·cases h
 ·obtain⟨w,hw⟩:=Option.isSome_iff_exists.mp h;have:=c.pw_in hw;simp at this;omega
theorem Al{ps:List Pr}(h:ps≠[]):jC ps=lstP ps:=by
 obtain⟨qs,x,rfl⟩:∃qs x,ps=qs++[x]:=⟨ps.dropLast,ps.getLast h,(List.dropLast_concat_getLast h).symm⟩
 rw[mz,dA]
theorem Jf{c:Case}{shut:List Pr}{p:Pr}{w:Int}(h:uz c shut p=some w):c.pw p=some w∧p∉shut:=by
 unfold uz at h;split at h
 ·cases h
 ·rename_i hs
  exact⟨h,hs⟩
theorem vx{c:Case}{shut:List Pr}:∀{k:Nat}{ps:List Pr},ps.length=k→nK c shut ps→Wy (uz c shut) ps∧wW c ps=vl (uz c shut) c.out c.into ps
 |0,ps,hk,o=>absurd (List.length_eq_zero_iff.mp hk) (jW o.1).1
 |k+1,ps,hk,o=>by
  obtain⟨qs,eq,⟨w,hw⟩,hq⟩:=o.split;generalize jC ps=p at eq hw hq;subst eq;have hp:=Jf hw;rcases hq with rfl|⟨oq,st⟩
  ·exact⟨.one (by rw[hw];rfl),by rw[List.nil_append,Jd hp.1];simp[vl,hw]⟩
  ·have hlen:qs.length=k:=by simpa using hk
   obtain⟨wq,vq⟩:=vx hlen oq;have el:=Al wq.ne;rw[ZA,el]at st;refine⟨wq.snoc (by rw[hw];rfl) st,?_⟩;rw[Fz wq.ne hp.1,nL _ _ _ wq.ne,hw,vq,el];rfl
theorem Am{c:Case}{shut:List Pr}:∀{k:Nat}{ps:List Pr},ps.length=k→Wy (uz c shut) ps→nK c shut ps
 |0,ps,hk,w=>absurd (List.length_eq_zero_iff.mp hk) w.ne
 |k+1,ps,hk,w=>by
  obtain⟨qs,eq,⟨v,hv⟩,hq⟩:=w.split;generalize lstP ps=p at eq hv hq;subst eq;rcases hq with rfl|⟨wq,st⟩
  ·exact .one hv
  ·have hlen:qs.length=k:=by simpa using hk
   exact(Am hlen wq).snoc hv (ZA.mpr (by rw[Al wq.ne];exact st))
theorem Dx{c:Case}{shut:List Pr}{ps:List Pr}:nK c shut ps↔Wy (lf (kx c shut)) ps:=by
 have:lf (kx c shut)=uz c shut:=by funext p;exact Yi c shut p
 rw[this];exact⟨fun o=>(vx rfl o).1,fun w=>Am rfl w⟩
theorem FF{c:Case}{shut:List Pr}{ps:List Pr}(o:nK c shut ps):wW c ps=vl (lf (kx c shut)) c.out c.into ps:=by
 have:lf (kx c shut)=uz c shut:=by funext p;exact Yi c shut p
 rw[this];exact(vx rfl o).2
end QF
namespace L2
open PySem PySem.Spec PyProof.Rows PySem.W PySem.Calls
section
variable{X:Cx}
open Classical in
end
end L2
namespace QF
open PySem L2
theorem eG.first{H:Hp}{xs:List V}{ps:List Pr}(P:eG H xs ps)(d6:ps≠[]):∃t,qV xs 0=some (.ref t)∧H t=some (.tup [.int (lQ ps).1, .int (lQ ps).2]):=by
 cases ps with
 |nil=>exact absurd rfl d6
 |cons p r=>
  obtain⟨t,h1,h2⟩:=P.2 0 p rfl;exact⟨t,av (j:=0) h1,h2⟩
end QF
namespace L2
open PySem PySem.Spec PyProof.Rows PySem.W PySem.Calls
section
variable{prog:Program}{w:World}{κ:Type}[DecidableEq κ]{knd:HeapKind prog w κ}{A:Around}{E:Value→Shared→Prop}{s:Shared}
theorem uA{α β:Type}(f:α→β):∀(xs:List α)(j:Nat),(xs.eraseIdx j).map f=(xs.map f).eraseIdx j
 |[],_=>XX
 | _::_,0=>XX
 | _::r,j+1=>by simp[uA f r j]
theorem Bp{xs:List (κ×Addr×Value)}(hn:(xs.map (·.1)).Nodup):∀{j:Nat}{k:κ}{p:Addr×Value},xs[j]?=some (k,p)→xs.eraseIdx j=xs.filter fun x=>decide (x.1≠k):=by
 induction xs with
 |nil=>intro j k p h;simp at h
 |cons x r ih=>
  intro j k p h;have Cj:=List.nodup_cons.mp (by simpa using hn:(x.1::r.map (·.1)).Nodup);cases j with
  |zero=>
   have:x=(k,p):=by simpa using h
   subst this;have hf:r.filter (fun x=>decide (x.1≠k))=r:=List.filter_eq_self.mpr fun y hy=>by
    have:y.1≠k:=fun e=>Cj.1 (List.mem_map.mpr ⟨y,hy,e⟩)
    simpa using this
   simp only[List.eraseIdx_cons_zero,List.filter_cons];rw[hf];simp
  |succ j=>
   have hj:r[j]?=some (k,p):=by simpa using h
   have hx:x.1≠k:=fun e=>Cj.1 (e▸(List.mem_map.mpr ⟨(k,p),XF hj,rfl⟩))
   simp only[List.eraseIdx_cons_succ,List.filter_cons];rw[ih Cj.2 hj,XH (by simpa using hx)]
theorem vy{d a:Addr}{xs:List (κ×Addr×Value)}{k:κ}{p:Addr×Value}{Q:Option DictEntry→Shared→Prop}(hu:knd.room A)(nc:knd.is s.heap k a)(hm:s.heap.DictOfH knd d xs)(hp:atKey xs k=some p)(hsz:xs.length≤sizeLine)
  (h:∀h' e,e.val=p.2→h'.DictOfH knd d (xs.filter fun x=>decide (x.1≠k))→Heap.SameBut d s.heap h'→Q (some e) {s with heap:=h',toks:=s.toks+knd.draws k}):wpAny (model prog w) A (Builtin.Dict.takeOut d (.ref a)) Q E s:=by
 obtain⟨o,es,ep,ho,hc,hd,he,P8,hn⟩:=hm;unfold Builtin.Dict.takeOut
 try with_reducible refine wpAny_holding ?_
 refine wpAny_bind (knd.pyHash hu nc ?_);refine wpAny_bind (wpAny_dictFind_heap (s:={s with toks:=s.toks+knd.draws k}) hu nc ho hd he P8 hn ?_ ?_)
 ·intro vz;rw[atKey_none_of_get vz]at hp;cases hp
 ·intro j q hj;have eq:q=p:=by rw[atKey_of_get hn hj]at hp;exact XM hp
  subst eq;refine wpAny_bind (wpAny_dictEntries (s:={s with toks:=s.toks+knd.draws k}) ho hd ?_);rw[entry_at he j,hj];refine wpAny_bind (wpAny_updateDictKeys (hz:=by have e:=size_of_entries he;omega) (s:={s with toks:=s.toks+knd.draws k}) ho hd (wpAny_pure (h _ _ rfl ⟨_,_,ep+1,Heap.get?_update_self _ ho (Obj.isFreed_of_dict (Obj.data_mapDictKeys hd _)),
   hc.mapDictKeys _,Obj.data_mapDictKeys hd _,?_,?_,?_⟩ (Heap.SameBut.update ..))))
  ·rw[←Bp hn hj,uA,←he];obtain⟨l⟩:=es;simp
  ·intro x hx;exact knd.keeps (P8 x (List.mem_filter.mp hx).1) ho hd (Heap.SameBut.update ..)
  ·exact hn.sublist (List.filter_sublist.map _)
theorem ZE(d a:Addr):
  MeetsIn prog w (Builtin.«dict.pop» ⟨[.ref d, .ref a],[]⟩) (fun A R s=>knd.room A.in1∧∃k xs p,knd.is s.heap k a∧s.heap.DictOfH knd d xs∧xs.length≤sizeLine∧atKey xs k=some p∧
   ∀h',h'.DictOfH knd d (xs.filter fun x=>decide (x.1≠k))→Heap.SameBut d s.heap h'→R (.ok (.ret p.2)) {s with heap:=h',toks:=s.toks+knd.draws k}):=
 .of_wp fun A R s ⟨hu,k,xs,p,nc,hm,hsz,hp,h⟩=>by
  obtain⟨o,es,ep,ho,hc,hd,he,P8,hn⟩:=id hm;have d6:es.isEmpty=false:=by
   cases hx:xs with
   |nil=>rw[hx]at hp;cases hp
   |cons x r=>
    have:=size_of_entries he;rw[hx]at this;simp at this;rw[Array.isEmpty_eq_false_iff];intro e;rw[e]at this;simp at this
  unfold Builtin.«dict.pop»;refine wpAny_bind ?_;unfold Builtin.Dict.keyAndDefault;refine wpAny_bind (wpAny_notOrdered_dict hm.typeIs ?_);show wpAny _ _ (pure (d,Value.ref a,none)) _ _ s;refine wpAny_pure ?_;have Mo:(keyPart (Value.ref a)).isSome=false:=rfl;simp only[Mo,Bool.false_eq_true,if_false];refine wpAny_bind (wpAny_dictEntries ho hd (wpAny_bind (wpAny_pure ?_)));rw[d6];simp only[Bool.false_eq_true,if_false];refine wpAny_bind (vy hu nc hm hp hsz fun h' e UT GU l7=>?_);simp only[Option.isNone_some,Bool.false_eq_true,if_false];exact wpAny_bind (wpAny_letGo (wpAny_pure ⟨e.val,rfl,by rw[UT];exact h h' GU l7⟩))
end
section
variable{X:Cx}{pins:List (Addr×Obj)}{σ:St}{H:Hp}{s:Shared}{a:Addr}{u:Value}{A:Around}{E:Value→Shared→Prop}{kvs:List (List Key×V)}
theorem KT.drop{xs:List (List Key×Addr×Value)}(r:KT H kvs xs)(k:List Key):KT H (iE kvs k) (xs.filter fun x=>decide (x.1≠k)):=by
 unfold iE
 induction r with
 |nil=>exact .nil
 |cons z t ih=>
  simp only[List.filter_cons];rw[z.1];split
  ·exact .cons z ih
  ·exact ih
theorem Jg{v:V}{k:List Key}{b:Addr}{Q:Value→Shared→Prop}(hu:A.units+1<cLine)(I:Inv X pins σ H s)(e:H a=some (.dT kvs))(eb:H b=some (.tup (k.map kV)))(l:bh kvs k=some v)
  (h:∀w' s',Inv X pins σ (upd H a (.dT (iE kvs k))) s'→RelV v w'→Q w' s'):wpAny (model X.prog X.w) A (call (.builtin "dict.pop") [.ref a, .ref b]) Q E s:=by
 obtain⟨z,hd,xs,rel,dd⟩:=GK I.bR e;have rv:=rel.val k;rw[l]at rv;obtain⟨w',hw,oZ⟩:=jQ.some_of rv;obtain⟨p,hp,rfl⟩:=Option.map_eq_some_iff.mp hw;refine call_meetsIn PySem.F.slot_dict_pop dd.typeIs PySem.F.entry_dict_pop (PySem.F.args_dict_pop_2 _ _) (ZE (knd:=tupleKind (cQ X.prog X.w)) a b)
  ⟨tupleKind_room_in1 hu,k,xs,p,mn I.bR eb,dd,by rw[←Paired.length rel];exact z,hp,fun h' GL hs=>h _ _ ?_ oZ⟩
 obtain⟨q,es,ep,hq,h2,h3,h4,_,h5⟩:=GL;refine uQ I (by rw[e];exact True.intro) hs ⟨q,hq⟩ ⟨Nat.le_trans (w6 kvs k) z,hd,_,(rel.drop k).keeps fun c ys ec=>?_,q,es,ep,hq,h2,h3,h4,h5⟩;rw[aj (iC ec e (fun z=>nomatch z))];exact ec
end
inductive G9(x y:V)(H:Hp)(Q:VK):Prop
 |mk (a b:Addr) (kvs:List (List Key×V)) (k:List Key) (v:V) (_:x= .ref a) (_:y= .ref b) (_:H a=some (.dT kvs)) (_:H b=some (.tup (k.map kV))) (_:bh kvs k=some v) (_:Q v (upd H a (.dT (iE kvs k)))):G9 x y H Q
def Mp(td ty:TE):TE:=fun σ H Q=>td σ H fun x H1=>∃a,x= .ref a∧Pc H1 a∧ty σ H1 fun y H2=>G9 x y H2 Q
theorem Dy{X:Cx}{o e:Expr}{apos dX:Pos}{td ty:TE}(hu:X.A.units+1<cLine)(ho:PE X o td)(he:PE X e ty)(m:M1 X o "pop" apos e dX):PE X (.Call (.Attribute o "pop" apos) [e] [] dX) (Mp td ty):=by
 intro pins s σ H Q I h;refine wpAny_Call_method m.base m.XY m.line PySem.F.plainAttrs_dict PySem.F.slot_dict_pop PySem.F.type_dict_pop (cy (ho pins s σ H _ I h) fun u s1 ⟨x,H1,I1,rx,a,ex,d,q1⟩=>?_);subst ex;obtain rfl:u=Value.ref a:=rx;obtain⟨t1,t2,_⟩:=CD I1 d;refine⟨t1,t2,?_⟩;rw[m.trees];refine Calls.callWith_builtin rfl (Calls.evalArgs_plain (Calls.spliced_cons (cy (he pins s1 σ H1 _ I1 q1) fun iv s2 ⟨y,H2,I2,ry,q2⟩=>Calls.spliced_nil ?_)));obtain⟨a',b,kvs,k,v,e1,rfl,e2,e3,l,q⟩:=q2;cases e1;obtain rfl:iv=Value.ref b:=ry;exact Jg hu I2 e2 e3 l fun w' s3 I3 oZ=>⟨v,_,I3,oZ,q⟩
section
variable{prog:Program}{w:World}{A:Around}{E:Value→Shared→Prop}{s:Shared}{it d:Addr}{i ep:Nat}{od:Obj}{es:Array DictEntry}{Q:Option Value→Shared→Prop}
theorem Dz(hit:s.heap.IsValIter it d i es.size ep)(G_:s.heap.get? d=some od)(Ha:od.data= .dict es ep)(hi:i<es.size)
  (hQ:∀h',h'.IsValIter it d (i+1) es.size ep→Heap.SameBut it s.heap h'→Q (some es[i].val) {s with heap:=h'}):wpAny (model prog w) A (pyNext (.ref it)) Q E s:=by
 obtain⟨o,ho,hc,hd⟩:=id hit;have T:=hit.typeIs;have vz:Builtin.Dict_items.ownsTuple "dict_valueiterator"=false:=XU;unfold pyNext;refine wpAny_bind (wpAny_attempt (wpAny_callSpecial?_slot (name:=Str.ofString "__next__") T F.slot_dict_valueiterator_next (wpAny_call_entry F.slot_dict_valueiterator_next T F.entry_dict_valueiterator_next ?_ (F.args_dict_valueiterator_next_1 _))));refine wpAny_bind (wpAny_pure (wpAny_bind (wpAny_bind ?_)));first|refine wpAny_bind (wpAny_typeNameOfWhole_valiter T (wpAny_pure ?_))|refine wpAny_bind (wpAny_typeNameOf_valiter T (wpAny_pure ?_))
 refine wpAny_bind (wpAny_fieldsOf ho hd ?_);simp only[vz,Bool.false_eq_true,if_false];show wpAny _ _ (if (Value.ref d==Value.none)=true then _ else _) _ _ s;rw[XE (show ¬((Value.ref d==Value.none)=true)from Bool.false_ne_true)];refine wpAny_bind (wpAny_pure (wpAny_bind (wpAny_dictEntries G_ Ha ?_)));rw[if_neg XN];refine wpAny_bind (wpAny_pure (wpAny_bind (wpAny_dictEpoch G_ Ha ?_)));rw[if_neg XN];refine wpAny_pure ?_;simp only[show ¬((i:Int)<0)from by omega,if_false,Int.toNat_natCast,Array.getElem?_eq_getElem hi];refine wpAny_bind ?_;first|refine wpAny_bind (wpAny_typeNameOfWhole_valiter T (wpAny_pure ?_))|refine wpAny_bind (wpAny_typeNameOf_valiter T (wpAny_pure ?_))
 refine wpAny_bind (wpAny_isOneOf_valiter T ?_);show wpAny _ _ (setField (.ref it) 1 (rawInt ((i:Int)+1))>>=_) _ _ s;refine wpAny_bind (wpAny_setField ho hd XN ?_);have ht:(s.heap.update it (Obj.mapFields (·.setIfInBounds 1 (rawInt ((i:Int)+1))))).IsValIter it d (i+1) es.size ep:=
  ⟨_,Heap.get?_update_self _ ho (Obj.isFreed_of_fields (Obj.data_mapFields hd _)),(Obj.cls_mapFields ..).trans hc,by rw[Obj.data_mapFields hd];simp[rawInt]⟩
 refine wpAny_bind (wpAny_holding (wpAny_bind (wpAny_isOneOf_valiter (s:={s with heap:=s.heap.update it (Obj.mapFields (·.setIfInBounds 1 (rawInt ((i:Int)+1))))}) ht.typeIs ?_)));refine wpAny_bind (wpAny_isOneOf_valiter (s:={s with heap:=s.heap.update it (Obj.mapFields (·.setIfInBounds 1 (rawInt ((i:Int)+1))))}) ht.typeIs ?_);show wpAny _ _ (pure es[i].val) _ _ _;exact wpAny_pure (wpAny_pure ⟨_,rfl,wpAny_pure (hQ _ ht (Heap.SameBut.update ..))⟩)
theorem FG(hh:A.handled=none)(hit:s.heap.IsValIter it d i es.size ep)(G_:s.heap.get? d=some od)(Ha:od.data= .dict es ep)(hi:es.size≤i)
  (hQ:∀h',Heap.ExtBut it s.heap h'→Q none {s with heap:=h'}):wpAny (model prog w) A (pyNext (.ref it)) Q E s:=by
 obtain⟨o,ho,hc,hd⟩:=id hit;have T:=hit.typeIs;have vz:Builtin.Dict_items.ownsTuple "dict_valueiterator"=false:=XU;unfold pyNext;refine wpAny_bind (wpAny_attempt (wpAny_callSpecial?_slot (name:=Str.ofString "__next__") T F.slot_dict_valueiterator_next (wpAny_call_entry F.slot_dict_valueiterator_next T F.entry_dict_valueiterator_next ?_ (F.args_dict_valueiterator_next_1 _))));refine wpAny_bind (wpAny_pure (wpAny_bind (wpAny_bind ?_)));first|refine wpAny_bind (wpAny_typeNameOfWhole_valiter T (wpAny_pure ?_))|refine wpAny_bind (wpAny_typeNameOf_valiter T (wpAny_pure ?_))
 refine wpAny_bind (wpAny_fieldsOf ho hd ?_);simp only[vz,Bool.false_eq_true,if_false];show wpAny _ _ (if (Value.ref d==Value.none)=true then _ else _) _ _ s;rw[XE (show ¬((Value.ref d==Value.none)=true)from Bool.false_ne_true)];refine wpAny_bind (wpAny_pure (wpAny_bind (wpAny_dictEntries G_ Ha ?_)));rw[if_neg XN];refine wpAny_bind (wpAny_pure (wpAny_bind (wpAny_dictEpoch G_ Ha ?_)));rw[if_neg XN];refine wpAny_pure ?_;simp only[show ¬((i:Int)<0)from by omega,if_false,Int.toNat_natCast,Array.getElem?_eq_none hi];refine wpAny_bind ?_;first|refine wpAny_bind (wpAny_typeNameOfWhole_valiter T (wpAny_pure ?_))|refine wpAny_bind (wpAny_typeNameOf_valiter T (wpAny_pure ?_))
 show wpAny _ _ (setField (.ref it) 0 .none>>=_) _ _ s;refine wpAny_bind (wpAny_setField ho hd XN ?_);show wpAny _ _ (newExc (.type "StopIteration") []>>=_) _ _ _;refine wpAny_bind ?_;simp only[newExc,newTuple];refine wpAny_bind (wpAny_newObj_type ?_ (by size_fits));refine wpAny_bind (m:=firstArgMember _ _) (wpAny_of_eq (a:=Value.none) (by first|rfl|(simp only[firstArgMember];rfl)) ?_);refine wpAny_newObj_type ?_ (by size_fits);simp only[raiseNew];refine wpAny_bind (wpAny_handled ?_);rw[show A.in1.handled=none from hh];refine wpAny_bind (wpAny_pure (wpAny_throw ?_));refine wpAny_bind (wpAny_isInstance (T:="StopIteration") (b:=true) ⟨_,Heap.get?_push_size _ rfl,rfl⟩ isSubtype_stop ?_);exact wpAny_pure (hQ _ (((Heap.SameBut.update ..).extBut.push _).push _))
end
theorem uB{α β:Type}{F:α→β→Prop}:∀{l:List α}{m:List β}{i:Nat}{a:α},Paired F l m→l[i]?=some a→∃b,m[i]?=some b∧F a b
 | _,_,_,_, .nil,e=>by simp at e
 | _,_,0,_, .cons r _,e=>by simp at e;subst e;exact⟨_,rfl,r⟩
 | _,_,i+1,_, .cons _ t,e=>by
  obtain⟨b,h,f⟩:=uB (i:=i) t (by simpa using e);exact⟨b,by simpa using h,f⟩
def P9(d:Addr)(o:Obj)(kvs:List (List Key×V)):It:=
 ⟨fun i H=>H d=some (.qS o (.dT kvs))∧i<kvs.length,fun i H x H'=>H'=H∧∃p,kvs[i]?=some p∧x=p.2,fun i H=>H d=some (.qS o (.dT kvs))∧kvs.length≤i⟩
theorem An{P:Program}{w:World}{H:Hp}{h:Heap}{d:Addr}{o:Obj}{kvs:List (List Key×V)}{es:Array DictEntry}{ep:Nat}(ok:kE P w H h)(e:H d=some (.qS o (.dT kvs)))(hd:o.data= .dict es ep):
  h.get? d=some o∧es.size=kvs.length∧∀i (hi:i<es.size) p,kvs[i]?=some p→RelV p.2 es[i].val:=by
 obtain⟨q1,_,_,xs,r,o',Nx,Ny,z1,z2,z3,z4,_⟩:=ok d _ e;rw[q1]at z1;cases z1;rw[hd]at z3;cases z3;have hs:=size_of_entries z4;have hl:=Paired.length r;refine⟨q1,by rw[hs,hl],fun i hi p hp=>?_⟩;obtain⟨x,hx,rx⟩:=uB r hp;have e1:=entry_at z4 i;rw[hx,Array.getElem?_eq_getElem hi]at e1;have:es[i]=entryOfKey (tupleKind (cQ P w)) x:=XM e1;rw[this];exact rx.2.2
theorem turn_val{P:Program}{w:World}{K:Frag}{tg:Expr}{it d:Addr}{o:Obj}{kvs:List (List Key×V)}{es:Array DictEntry}{ep:Nat}(hd:o.data= .dict es ep):Turn P w K tg (P9 d o kvs) [it] it (fun i h=>h.IsValIter it d i es.size ep) where
 mem:=XX
 obj:=fun i h st b hb=>by
  have e:b=it:=by simpa using hb
  subst e;obtain⟨o,e,c,d⟩:=st;exact⟨o,e,fun v z=>by rw[d]at z;cases z⟩
 keep:=fun i h h' st k=>let ⟨o,ho,r⟩:=st;⟨o,k it (XX) o ho,r⟩
 item:=by
  intro X hP hw hK hc i pins s σ H E I hf st hg;subst hP hw hK;obtain⟨hg,hi⟩:=hg;obtain⟨f0,f1,f2,f3,f4,f5⟩:=hf it (XX);obtain⟨g1,g2,g3⟩:=An I.bR hg hd;have Y3:i<es.size:=XT;refine Dz st g1 hd Y3 fun h' aP sb=>?_
  have I1:Inv X pins σ H {s with heap:=h'}:=I.turned (t':=s.toks) (fun b o hb e=>(sb.2 b hb).trans e) f0 f1 f3 f4 f5;obtain⟨oi,q1,q2,q3⟩:=id aP;exact⟨_,rfl,wQ (s:={s with heap:=h'}) q1 q2 q3 (XU) ⟨_,H,I1,g3 i Y3 kvs[i] (by simp[hi]),⟨rfl,kvs[i],by simp[hi],rfl⟩,aP,fun b hb=>(hf b hb).1⟩⟩
 done:=by
  intro X hP hw hK hc i pins s σ H E I hf st hg;subst hP hw hK;obtain⟨hg,hi⟩:=hg;obtain⟨f0,f1,f2,f3,f4,f5⟩:=hf it (XX);obtain⟨g1,g2,g3⟩:=An I.bR hg hd;exact FG (I.ok.hd hc) st g1 hd XQ fun h' eb=>⟨rfl,I.turned (t':=s.toks) (fun b o hb e=>eb b o hb e) f0 f1 f3 f4 f5⟩
 self:=fun _ _ _ _ _ st h=>wpAny_pyIter_valiter st h
section
variable{prog:Program}{w:World}{A:Around}{E:Value→Shared→Prop}{s:Shared}
theorem Br(d:Addr)(hd:(d==sysModules)=false):MeetsIn prog w (Builtin.«dict.values» ⟨[.ref d],[]⟩) (fun _ R s=>s.TypeIs (.ref d) "dict"∧
   R (.ok (.ret (.ref s.heap.objs.size))) {s with heap:=s.heap.push {cls:= .type "dict_values",data:= .fields #[.ref d]}}):=
 .of_wp fun A R s ⟨ht,h⟩=>by
  refine wpAny_bind ?_;unfold Builtin.Dict.noArgs;refine wpAny_bind (wpAny_notOrdered_dict ht ?_);show wpAny _ _ (pure d) _ _ s;refine wpAny_pure ?_;show wpAny _ _ (Builtin.Dict.showsAll d>>=_) _ _ s;unfold Builtin.Dict.showsAll;rw[XE (by rw[hd];exact Bool.false_ne_true)];exact wpAny_bind (wpAny_pure (wpAny_bind (wpAny_newObj_type (wpAny_pure ⟨_,rfl,h⟩))))
theorem Bs{v d:Addr}{od:Obj}{es:Array DictEntry}{ep:Nat}{Q:Value→Shared→Prop}(hv:s.heap.IsValuesView v d)(G_:s.heap.get? d=some od)(Ha:od.data= .dict es ep)
  (hQ:Q (.ref s.heap.objs.size) {s with heap:=s.heap.push {cls:= .type "dict_valueiterator",data:= .fields #[.ref d, .int 0 0, .int es.size 0, .int ep 0]}}):wpAny (model prog w) A (pyIter (.ref v)) Q E s:=by
 obtain⟨ov,UU,WW,UW⟩:=id hv;refine wpAny_pyIter_slot hv.typeIs F.slot_dict_values_iter (wpAny_call_entry F.slot_dict_values_iter hv.typeIs F.entry_dict_values_iter ?_ (F.args_dict_values_iter_1 _));unfold Builtin.«dict_values.__iter__»;refine wpAny_bind (wpAny_pure (wpAny_bind ?_));unfold Builtin.Dict_items.dictOf;refine wpAny_bind (wpAny_field UU UW (x:= .ref d) rfl (wpAny_pure (wpAny_bind ?_)));unfold Builtin.Dict_items.newIterator;refine wpAny_bind (wpAny_dictEntries G_ Ha (wpAny_bind (wpAny_dictEpoch G_ Ha ?_)));have vz:Builtin.Dict_items.ownsTuple "dict_valueiterator"=false:=XU;simp only[vz,Bool.false_eq_true,if_false];refine wpAny_newObj_type (wpAny_pure ⟨_,rfl,"dict_valueiterator",_,⟨_,Heap.get?_push_size _ rfl,rfl⟩,F.slot_dict_valueiterator_next.lookup,?_⟩);simpa[rawInt]using hQ
end
def Mq(eD:Hp)(tl:TE):TI:=fun σ H R=>tl σ H fun x H1=>∃d kvs,x= .ref d∧H1 d=some (.dT kvs)∧∀o,NF eD d→R (P9 d o kvs) (upd H1 d (.qS o (.dT kvs)))
theorem FH{X:Cx}(eD:Hp){tg o:Expr}{tl:TE}{apos dX:Pos}(hl:PE X o tl)(nj:attributeBase o "values" X.env (eval o X.env)=eval o X.env:=by rfl)(nk:(apos.endLine==dX.line)=true:=by rfl)(hH:X.eD=eD:=by rfl):
  PI X tg (.Call (.Attribute o "values" apos) [] [] dX) (Mq eD tl):=by
 subst hH;intro pins s σ H R I h;refine wpAny_Call_method0_late nj nk (cy (hl pins s σ H _ I h) fun v s1 ⟨x,H1,I1,r1,q1⟩=>?_);obtain⟨d,kvs,e,hd,q⟩:=q1;subst e;cases r1;obtain⟨z1,z2,xs,r,o,es,ep,g1,g2,g3,g4,g5⟩:=I1.bR d _ hd;have nf:NF X.eD d:=fun o v e=>by
  have:=I1.base.m4 d o v e;rw[hd]at this;cases this
 refine⟨"dict",_,F.plainAttrs_dict,F.slot_dict_values,F.type_dict_values,⟨o,g1,g2.1⟩,fun b hb=>?_,Calls.callWith_builtin rfl (PySem.evalArgs_none ?_)⟩
 ·cases hb;exact⟨o,g1,g2.2.1⟩
 refine call_meetsIn F.slot_dict_values ⟨o,g1,g2.1⟩ F.entry_dict_values (F.args_dict_values_1 _) (Br d z2) ⟨⟨o,g1,g2.1⟩,?_⟩;have UX:=Heap.get?_push_of_some {cls:= .type "dict_values",data:= .fields #[.ref d]} g1;refine Bs (s:={s1 with heap:=s1.heap.push {cls:= .type "dict_values",data:= .fields #[.ref d]}}) ⟨_,Heap.get?_push_size _ rfl,rfl,rfl⟩ UX g3 ?_;have Iz:Inv X pins σ (upd H1 d (.qS o (.dT kvs))) s1:=I1.swap hd (fun _ z=>nomatch z) (fun _ z=>nomatch z) (fun _ z=>nomatch z) nf ⟨g1,z1,z2,xs,KT.keeps r (fun c ys ec=>by rw[aj (iC ec hd (fun z=>nomatch z))];exact ec),o,es,ep,g1,g2,g3,g4,g5⟩;have I2:=Iz.kept (t':=s1.toks) fun b o e=>Heap.get?_push_of_some {cls:= .type "dict_values",data:= .fields #[.ref d]} e
 refine⟨_,[_],_,_,_,rfl,I2.kept (t':=s1.toks) fun b o e=>XD e,turn_val (o:=o) (kvs:=kvs) g3,⟨_,Heap.get?_push_size _ rfl,rfl,rfl⟩,fun b hb=>?_,q o nf⟩;have e:b=(s1.heap.push {cls:= .type "dict_values",data:= .fields #[.ref d]}).objs.size:=by simpa using hb
 subst e;exact I2.s_ (Nat.le_refl _) (I2.bR.fresh (Nat.le_refl _))
structure YA(n:Nat)(lt:Nat→Nat→Bool):Prop where
 tr:∀i j k,i<n→j<n→k<n→lt i j=true→lt j k=true→lt i k=true
 as:∀i j,i<n→j<n→lt i j=true→lt j i=false
 P_:∀i j,i<n→j<n→i≠j→lt i j=true∨lt j i=true
def wF(n:Nat)(p:Array Nat):Prop:=p.toList.Perm (List.range n)
abbrev gd(p:Array Nat)(k:Nat):Nat:=p.getD k 0
theorem DA(p:Array Nat)(k:Nat):gd p k=(p[k]?).getD 0:=by unfold gd;rw[Array.getD_eq_getD_getElem?]
theorem wF.size{n:Nat}{p:Array Nat}(h:wF n p):p.size=n:=by have:=h.length_eq;simpa using this
def Sd(lt:Nat→Nat→Bool)(p:Array Nat)(m:Nat):Prop:=∀i j,i<j→j<m→lt (gd p i) (gd p j)=true
section
variable{n:Nat}{lt:Nat→Nat→Bool}(L:YA n lt)
include L
omit L in
omit L in
omit L in
end
def Y5:Bool→Keyed→Array Keyed→Nat→Nat→Nat→StateT SortSt Sem (Option Nat):=sortPriv%PySem.Builtin.gallop
def Jh:Array Keyed→Array Keyed→StateT SortSt Sem (Array Keyed):=sortPriv%PySem.Builtin.mergeLo
def Ji:Array Keyed→Array Keyed→StateT SortSt Sem (Array Keyed):=sortPriv%PySem.Builtin.mergeHi
def YB(l:Bool)(key:Keyed)(xs:Array Keyed)(b i:Nat):StateT SortSt Sem (Option Bool):=do
 let x←elem' xs (b+i)
 if l then lt' x key else return (←lt' key x).map (!·)
theorem FI(l:Bool)(key:Keyed)(xs:Array Keyed)(b n h:Nat):Y5 l key xs b n h=(do
 let mut u:=0
 let mut v:=1
 let mut lo:=0
 let mut hi:=0
 let some r←YB l key xs b h|return none
 if r then
  let mx:=n-h
  for _ in [0:n] do
   if v≥mx then break
   let some z←YB l key xs b (h+v)|return none
   if !z then break
   u:=v
   v:=2*v+1
  lo:=h+u+1
  hi:=h+min v mx
 else
  let mx:=h+1
  for _ in [0:n] do
   if v≥mx then break
   let some z←YB l key xs b (h-v)|return none
   if z then break
   u:=v
   v:=2*v+1
  lo:=h+1-min v mx
  hi:=h-u
 for _ in [0:n] do
  if lo≥hi then break
  let m:=lo+(hi-lo)/2
  let some z←YB l key xs b m|return none
  if z then lo:=m+1 else hi:=m
 return some hi):=rfl
section
variable{prog:Program}{w:World}{A:Around}{E:Value→Shared→Prop}{s:Shared}
structure DB(prog:Program)(w:World)(A:Around)(s:Shared)(X:List Keyed)(κ:SortKind)(lt:Keyed→Keyed→Bool):Prop where
 run:∀x∈X,∀y∈X,∀C:Bool→Shared→Prop,C (lt x y) s→wpAny (model prog w) A (keyLt' κ x.1 y.1) C (fun _ _=>False) s
 tr:∀x∈X,∀y∈X,∀z∈X,lt x y=true→lt y z=true→lt x z=true
 as:∀x∈X,∀y∈X,lt x y=true→lt y x=false
 P_:∀x∈X,∀y∈X,x≠y→lt x y=true∨lt y x=true
 nd:X.Nodup
variable{X:List Keyed}{κ:SortKind}{lt:Keyed→Keyed→Bool}(C:DB prog w A s X κ lt)
include C
theorem DB.no{x y:Keyed}(h1:x∈X)(h2:y∈X)(hn:x≠y)(h:lt x y=false):lt y x=true:=(C.P_ x h1 y h2 hn).resolve_left (by rw[h];simp)
theorem DB.ask{st:SortSt}{x y:Keyed}{Q:Option Bool→SortSt→Prop}(hk:kindOf st=κ)(h1:x∈X)(h2:y∈X)(h:Q (some (lt x y)) st):wpS (model prog w) A E s (lt' x y) Q st:=by
 rw[lt'_eq];refine wpS_bind (wpS_get ?_);rw[hk];refine wpS_bind (wpS_lift (wpAny_attempt (wpAny_mono (C.run x h1 y h2 (fun b s'=>b=lt x y∧s'=s) ⟨rfl,rfl⟩) ?_ fun _ _ e=>e.elim)));rintro b s' ⟨rfl,rfl⟩;exact⟨rfl,wpS_pure h⟩
omit C in
theorem eI{st:SortSt}{xs:Array Keyed}{i:Nat}{x:Keyed}{Q:Keyed→SortSt→Prop}(e:xs[i]?=some x)(h:Q x st):wpS (model prog w) A E s (elem' xs i) Q st:=by
 rw[elem'_eq,e];exact wpS_pure h
def ky(lt:Keyed→Keyed→Bool)(l:Bool)(key x:Keyed):Bool:=if l then lt x key else !lt key x
theorem qZ{st:SortSt}{l:Bool}{key x:Keyed}{xs:Array Keyed}{b i:Nat}{Q:Option Bool→SortSt→Prop}(hk:kindOf st=κ)(h1:key∈X)(h2:x∈X)(e:xs[b+i]?=some x)(h:Q (some (ky lt l key x)) st):wpS (model prog w) A E s (YB l key xs b i) Q st:=by
 unfold YB;refine wpS_bind (eI e ?_);cases l with
 |true=>exact C.ask hk h2 h1 h
 |false=>exact wpS_bind (C.ask hk h1 h2 (wpS_pure h))
theorem pM{st:SortSt}{l:Bool}{key:Keyed}{xs:Array Keyed}{b n h:Nat}{Q:Option Nat→SortSt→Prop}(g:Nat→Keyed)(hk:kindOf st=κ)(h1:key∈X)(hg:∀i,i<n→xs[b+i]?=some (g i)∧g i∈X)(Pt:∀i j,i<j→j<n→lt (g i) (g j)=true)(hh:h<n)
  (q:∀k,k≤n→(∀i,i<k→ky lt l key (g i)=true)→(∀i,k≤i→i<n→ky lt l key (g i)=false)→Q (some k) st):wpS (model prog w) A E s (Y5 l key xs b n h) Q st:=by
 have dn:∀i j,i≤j→j<n→ky lt l key (g j)=true→ky lt l key (g i)=true:=fun i j sX hj hb=>by
  by_cases e:i=j
  ·rw[e];exact hb
  have hl:=Pt i j XR hj;unfold ky at hb⊢;cases l with
  |true=>exact C.tr _ (hg i XR).2 _ (hg j hj).2 _ h1 hl hb
  |false=>
   simp only[Bool.false_eq_true,if_false,Bool.not_eq_true']at hb⊢;cases e2:lt key (g i)with
   |false=>rfl
   |true=>rw[C.tr _ h1 _ (hg i XR).2 _ (hg j hj).2 e2 hl]at hb;cases hb
 have up:∀i j,i≤j→j<n→ky lt l key (g i)=false→ky lt l key (g j)=false:=fun i j sX hj hb=>by
  cases e:ky lt l key (g j)with
  |false=>rfl
  |true=>rw[dn i j sX hj e]at hb;cases hb
 have bin:∀lo hi,lo≤hi→hi≤n→(∀i,i<lo→ky lt l key (g i)=true)→(∀i,hi≤i→i<n→ky lt l key (g i)=false)→wpS (model prog w) A E s (do
   let r←forIn [0:n] ((none,lo,hi):Option (Option Nat)×Nat×Nat) fun _ __s=>
    if __s.2.1≥__s.2.2 then pure (ForInStep.done (none,__s.2.1,__s.2.2))
    else do
     let __x←YB l key xs b (__s.2.1+(__s.2.2-__s.2.1)/2)
     match __x with
     |some z=>if z=true then pure (ForInStep.yield (none,__s.2.1+(__s.2.2-__s.2.1)/2+1,__s.2.2))else pure (ForInStep.yield (none,__s.2.1,__s.2.1+(__s.2.2-__s.2.1)/2))
     | _=>pure (ForInStep.done (some none,__s.2.1,__s.2.2))
   match r.1 with
   |some r=>pure r
   |none=>pure (some r.2.2)) Q st:=fun lo hi h2 h3 h4 h5=>by
  refine wpS_bind (wpS_mono (wpS_forRange (I:=fun x c aP=>aP=st∧∃lo hi,c=(none,lo,hi)∧lo≤hi∧hi≤n∧(∀i,i<lo→ky lt l key (g i)=true)∧(∀i,hi≤i→i<n→ky lt l key (g i)=false)∧hi-lo+x≤n) (Q:=fun c aP=>aP=st∧∃k,c.1=none∧c.2.2=k∧k≤n∧(∀i,i<k→ky lt l key (g i)=true)∧(∀i,k≤i→i<n→ky lt l key (g i)=false)) ?_ ?_ ⟨rfl,lo,hi,rfl,h2,h3,h4,h5,by lia⟩) ?_)
  ·rintro x c aP _ hx ⟨rfl,lo,hi,rfl,a1,a2,a3,a4,a5⟩;dsimp only;by_cases RZ:lo≥hi
   ·rw[XH RZ];have:lo=hi:=by lia
    subst this;exact wpS_pure ⟨rfl,lo,rfl,rfl,a2,a3,a4⟩
   ·rw[XE RZ];have hm:lo+(hi-lo)/2<n:=by lia
    obtain⟨g1,g2⟩:=hg _ hm;refine wpS_bind (qZ C hk h1 g2 g1 ?_);dsimp only;cases e:ky lt l key (g (lo+(hi-lo)/2))with
    |true=>
     simp only[if_true];exact wpS_pure ⟨rfl,_,hi,rfl,by lia,a2,fun i Y3=>dn i _ (by lia) hm e,a4,by lia⟩
    |false=>
     simp only[Bool.false_eq_true,if_false];exact wpS_pure ⟨rfl,lo,_,rfl,by lia,by lia,a3,fun i Y3 m3=>up _ i Y3 m3 e,by lia⟩
  ·rintro c aP ⟨rfl,lo,hi,rfl,a1,a2,a3,a4,a5⟩;have:lo=hi:=by lia
   subst this;exact⟨rfl,lo,rfl,rfl,a2,a3,a4⟩
  ·rintro⟨c1,c2,c3⟩ aP ⟨rfl,k,e1,e2,a2,a3,a4⟩;dsimp only at e1 e2⊢;subst e1 e2;exact wpS_pure (q _ a2 a3 a4)
 rw[FI];obtain⟨UY,UZ⟩:=hg h hh;refine wpS_bind (qZ C hk h1 UZ UY ?_);dsimp only;cases e:ky lt l key (g h)with
 |true=>
  simp only[if_true];refine wpS_bind (wpS_mono (wpS_forRange (I:=fun x c aP=>aP=st∧∃u v,c=(none,u,v)∧u<v∧h+u<n∧ky lt l key (g (h+u))=true∧x<v) (Q:=fun c aP=>aP=st∧∃u v,c=(none,u,v)∧u<v∧h+u<n∧ky lt l key (g (h+u))=true∧(n-h≤v∨(h+v<n∧ky lt l key (g (h+v))=false))) ?_ ?_ ⟨rfl,0,1,rfl,by lia,by lia,e,by lia⟩) ?_)
  ·rintro x c aP _ hx ⟨rfl,u,v,rfl,a1,a2,a3,a4⟩;dsimp only;by_cases hv:v≥n-h
   ·rw[XH hv];exact wpS_pure ⟨rfl,u,v,rfl,a1,a2,a3, .inl hv⟩
   ·rw[XE hv];obtain⟨g1,g2⟩:=hg (h+v) (by lia);refine wpS_bind (qZ C hk h1 g2 g1 ?_);dsimp only;cases e2:ky lt l key (g (h+v))with
    |false=>
     simp only[Bool.not_false,if_true];exact wpS_pure ⟨rfl,u,v,rfl,a1,a2,a3, .inr ⟨by lia,e2⟩⟩
    |true=>
     simp only[Bool.not_true,Bool.false_eq_true,if_false];exact wpS_pure ⟨rfl,v,2*v+1,rfl,by lia,by lia,e2,by lia⟩
  ·rintro c aP ⟨rfl,u,v,rfl,a1,a2,a3,a4⟩;exact⟨rfl,u,v,rfl,a1,a2,a3, .inl XR⟩
  ·rintro c aP ⟨rfl,u,v,rfl,a1,a2,a3,a4⟩;dsimp only;refine Eq.mp (by kernel_rfl) (bin (h+u+1) (h+min v (n-h)) (by lia) (by lia) (fun i hi=>dn i (h+u) (by lia) a2 a3) fun i hi m3=>?_);rcases a4 with a4|⟨a4,a5⟩
   ·lia
   ·exact up (h+v) i XR m3 a5
 |false=>
  simp only[Bool.false_eq_true,if_false];refine wpS_bind (wpS_mono (wpS_forRange (I:=fun x c aP=>aP=st∧∃u v,c=(none,u,v)∧u<v∧u≤h∧ky lt l key (g (h-u))=false∧x<v) (Q:=fun c aP=>aP=st∧∃u v,c=(none,u,v)∧u<v∧u≤h∧ky lt l key (g (h-u))=false∧(h+1≤v∨(v≤h∧ky lt l key (g (h-v))=true))) ?_ ?_ ⟨rfl,0,1,rfl,by lia,by lia,e,by lia⟩) ?_)
  ·rintro x c aP _ hx ⟨rfl,u,v,rfl,a1,a2,a3,a4⟩;dsimp only;by_cases hv:v≥h+1
   ·rw[XH hv];exact wpS_pure ⟨rfl,u,v,rfl,a1,a2,a3, .inl hv⟩
   ·rw[XE hv];obtain⟨g1,g2⟩:=hg (h-v) (by lia);refine wpS_bind (qZ C hk h1 g2 g1 ?_);dsimp only;cases e2:ky lt l key (g (h-v))with
    |true=>
     simp only[if_true];exact wpS_pure ⟨rfl,u,v,rfl,a1,a2,a3, .inr ⟨by lia,e2⟩⟩
    |false=>
     simp only[Bool.false_eq_true,if_false];exact wpS_pure ⟨rfl,v,2*v+1,rfl,by lia,by lia,e2,by lia⟩
  ·rintro c aP ⟨rfl,u,v,rfl,a1,a2,a3,a4⟩;exact⟨rfl,u,v,rfl,a1,a2,a3, .inl XR⟩
  ·rintro c aP ⟨rfl,u,v,rfl,a1,a2,a3,a4⟩;dsimp only;refine Eq.mp (by kernel_rfl) (bin (h+1-min v (h+1)) (h-u) (by lia) (by lia) (fun i hi=>?_) fun i hi m3=>up (h-u) i XR m3 a3);rcases a4 with a4|⟨a4,a5⟩
   ·lia
   ·exact dn i (h-v) (by lia) (by lia) a5
end
def setG(g:Nat):StateT SortSt Sem Unit:=modify fun st=>SortSt.mk' (kindOf st) (arrOf st) (pendingOf st) g (failedOf st)
def Ez(a b out:Array Keyed)(i j:Nat):Array Keyed:=out++a.extract i a.size++b.extract j b.size
def Kx(a b out:Array Keyed)(i j:Nat):Array Keyed:=out++b.extract j b.size++a.extract i a.size
abbrev S1:=Option (Array Keyed)×Array Keyed×Nat×Nat×Nat×Nat
abbrev S2:=Option (Array Keyed)×Array Keyed×Nat×Nat×Nat×Nat×Nat
abbrev S3:=Option (Array Keyed)×Array Keyed×Nat×Nat×Nat
def lo1(a b:Array Keyed)(mg:Nat)(c:S1):StateT SortSt Sem (ForInStep S1):=do
 let y←elem' b c.2.2.2.1
 let x←elem' a c.2.2.1
 let z←lt' y x
 match z with
 |some bw=>
  if bw=true then do
   let y←elem' b c.2.2.2.1
   if (c.2.2.2.1+1==b.size)=true then pure (.done (some (Ez a b (c.2.1.push y) c.2.2.1 (c.2.2.2.1+1)),c.2.1.push y,c.2.2.1,c.2.2.2.1+1,0,c.2.2.2.2.2+1))
   else if c.2.2.2.2.2+1≥mg then pure (.done (none,c.2.1.push y,c.2.2.1,c.2.2.2.1+1,0,c.2.2.2.2.2+1))
   else pure (.yield (none,c.2.1.push y,c.2.2.1,c.2.2.2.1+1,0,c.2.2.2.2.2+1))
  else do
   let x←elem' a c.2.2.1
   if (c.2.2.1+1+1==a.size)=true then pure (.done (some (Kx a b (c.2.1.push x) (c.2.2.1+1) c.2.2.2.1),c.2.1.push x,c.2.2.1+1,c.2.2.2.1,c.2.2.2.2.1+1,0))
   else if c.2.2.2.2.1+1≥mg then pure (.done (none,c.2.1.push x,c.2.2.1+1,c.2.2.2.1,c.2.2.2.2.1+1,0))
   else pure (.yield (none,c.2.1.push x,c.2.2.1+1,c.2.2.2.1,c.2.2.2.2.1+1,0))
 | _=>pure (.done (some (Ez a b c.2.1 c.2.2.1 c.2.2.2.1),c.2.1,c.2.2.1,c.2.2.2.1,c.2.2.2.2.1,c.2.2.2.2.2))
def NU(a b o:Array Keyed)(i j mg k l:Nat):StateT SortSt Sem (ForInStep S2):=do
 let x←elem' a i
 if (i+1+1==a.size)=true then pure (.done (some (Kx a b (o.push x) (i+1) j),o.push x,i+1,j,mg,k,l))
 else if (decide (k<7)&&decide (l<7))=true then pure (.done (none,o.push x,i+1,j,mg,k,l))
 else pure (.yield (none,o.push x,i+1,j,mg,k,l))
def Qa(a b o:Array Keyed)(i j mg k bc:Nat):StateT SortSt Sem (ForInStep S2):=do
 let x←elem' a i
 let z←Y5 true x b j (b.size-j) 0
 match z with
 |some l=>if l>0 then(if (j+l==b.size)=true then pure (.done (some (Ez a b (o++b.extract j (j+l)) i (j+l)),o++b.extract j (j+l),i,j+l,mg,k,l))else NU a b (o++b.extract j (j+l)) i (j+l) mg k l)else NU a b o i j mg k l
 | _=>pure (.done (some (Ez a b o i j),o,i,j,mg,k,bc))
def NV(a b o:Array Keyed)(i j mg k bc:Nat):StateT SortSt Sem (ForInStep S2):=do
 let y←elem' b j
 if (j+1==b.size)=true then pure (.done (some (Ez a b (o.push y) i (j+1)),o.push y,i,j+1,mg,k,bc))else Qa a b (o.push y) i (j+1) mg k bc
def NW(a b o:Array Keyed)(i j mg ac bc:Nat):StateT SortSt Sem (ForInStep S2):=do
 setG mg
 let y←elem' b j
 let z←Y5 false y a i (a.size-i) 0
 match z with
 |some k=>if k>0 then(if (i+k+1==a.size)=true then pure (.done (some (Kx a b (o++a.extract i (i+k)) (i+k) j),o++a.extract i (i+k),i+k,j,mg,k,bc))else if (i+k==a.size)=true then pure (.done (some (Ez a b (o++a.extract i (i+k)) (i+k) j),o++a.extract i (i+k),i+k,j,mg,k,bc))else NV a b (o++a.extract i (i+k)) (i+k) j mg k bc)else NV a b o i j mg k bc
 | _=>pure (.done (some (Ez a b o i j),o,i,j,mg,ac,bc))
def Qb(a b:Array Keyed)(c:S2):StateT SortSt Sem (ForInStep S2):=if c.2.2.2.2.1>1 then NW a b c.2.1 c.2.2.1 c.2.2.2.1 (c.2.2.2.2.1-1) c.2.2.2.2.2.1 c.2.2.2.2.2.2 else NW a b c.2.1 c.2.2.1 c.2.2.2.1 c.2.2.2.2.1 c.2.2.2.2.2.1 c.2.2.2.2.2.2
def Qc(a b:Array Keyed)(c:S3):StateT SortSt Sem (ForInStep S3):=do
 let t←forIn [0:a.size+b.size] ((none,c.2.1,c.2.2.1,c.2.2.2.1,0,0):S1) (fun _=>lo1 a b c.2.2.2.2)
 match t.1 with
 |some r=>pure (.done (some r,t.2.1,t.2.2.1,t.2.2.2.1,c.2.2.2.2))
 |none=>do
  liftM (rule "list.sort.gallop")
  let u←forIn [0:a.size+b.size] ((none,t.2.1,t.2.2.1,t.2.2.2.1,c.2.2.2.2+1,t.2.2.2.2.1,t.2.2.2.2.2):S2) (fun _=>Qb a b)
  match u.1 with
  |some r=>pure (.done (some r,u.2.1,u.2.2.1,u.2.2.2.1,u.2.2.2.2.1))
  |none=>do
   setG (u.2.2.2.2.1+1)
   pure (.yield (none,u.2.1,u.2.2.1,u.2.2.2.1,u.2.2.2.2.1+1))
theorem FJ(a b:Array Keyed):Jh a b=(do
 liftM (rule "list.sort.merge-lo")
 let y←elem' b 0
 if (1==b.size)=true then pure (Ez a b #[y] 0 1)
 else if (0+1==a.size)=true then pure (Kx a b #[y] 0 1)
 else do
  let g←get
  let t←forIn [0:a.size+b.size] ((none,#[y],0,1,gallopOf g):S3) (fun _=>Qc a b)
  match t.1 with
  |some r=>pure r
  |none=>unsupported "internal:list.sort.merge-bound"):=by kernel_rfl
def EA(a b o:Array Keyed)(i j:Nat):Array Keyed:=a.extract 0 i++b.extract 0 j++o.reverse
def Ky(a b o:Array Keyed)(i j:Nat):Array Keyed:=b.extract 0 j++a.extract 0 i++o.reverse
abbrev T1:=Option (Array Keyed)×Nat×Nat×Array Keyed×Nat×Nat
abbrev T2:=Option (Array Keyed)×Nat×Nat×Array Keyed×Nat×Nat×Nat
abbrev T3:=Option (Array Keyed)×Nat×Nat×Array Keyed×Nat
def Qd(a b:Array Keyed)(mg:Nat)(c:T1):StateT SortSt Sem (ForInStep T1):=do
 let y←elem' b (c.2.2.1-1)
 let x←elem' a (c.2.1-1)
 let z←lt' y x
 match z with
 |some aw=>
  if aw=true then do
   let x←elem' a (c.2.1-1)
   if (c.2.1-1==0)=true then pure (.done (some (EA a b (c.2.2.2.1.push x) (c.2.1-1) c.2.2.1),c.2.1-1,c.2.2.1,c.2.2.2.1.push x,c.2.2.2.2.1+1,0))
   else if c.2.2.2.2.1+1≥mg then pure (.done (none,c.2.1-1,c.2.2.1,c.2.2.2.1.push x,c.2.2.2.2.1+1,0))
   else pure (.yield (none,c.2.1-1,c.2.2.1,c.2.2.2.1.push x,c.2.2.2.2.1+1,0))
  else do
   let y←elem' b (c.2.2.1-1)
   if (c.2.2.1-1==1)=true then pure (.done (some (Ky a b (c.2.2.2.1.push y) c.2.1 (c.2.2.1-1)),c.2.1,c.2.2.1-1,c.2.2.2.1.push y,0,c.2.2.2.2.2+1))
   else if c.2.2.2.2.2+1≥mg then pure (.done (none,c.2.1,c.2.2.1-1,c.2.2.2.1.push y,0,c.2.2.2.2.2+1))
   else pure (.yield (none,c.2.1,c.2.2.1-1,c.2.2.2.1.push y,0,c.2.2.2.2.2+1))
 | _=>pure (.done (some (EA a b c.2.2.2.1 c.2.1 c.2.2.1),c.2.1,c.2.2.1,c.2.2.2.1,c.2.2.2.2.1,c.2.2.2.2.2))
def NX(a b o:Array Keyed)(i j mg k l:Nat):StateT SortSt Sem (ForInStep T2):=do
 let x←elem' a (i-1)
 if (i-1==0)=true then pure (.done (some (EA a b (o.push x) (i-1) j),i-1,j,o.push x,mg,k,l))
 else if (decide (k<7)&&decide (l<7))=true then pure (.done (none,i-1,j,o.push x,mg,k,l))
 else pure (.yield (none,i-1,j,o.push x,mg,k,l))
def Qe(a b o:Array Keyed)(i j mg k bc:Nat):StateT SortSt Sem (ForInStep T2):=do
 let x←elem' a (i-1)
 let z←Y5 true x b 0 j (j-1)
 match z with
 |some t=>if j-t>0 then(if (t==1)=true then pure (.done (some (Ky a b (o++(b.extract t j).reverse) i t),i,t,o++(b.extract t j).reverse,mg,k,j-t))else if (t==0)=true then pure (.done (some (EA a b (o++(b.extract t j).reverse) i t),i,t,o++(b.extract t j).reverse,mg,k,j-t))else NX a b (o++(b.extract t j).reverse) i t mg k (j-t))else NX a b o i j mg k (j-t)
 | _=>pure (.done (some (EA a b o i j),i,j,o,mg,k,bc))
def NY(a b o:Array Keyed)(i j mg k bc:Nat):StateT SortSt Sem (ForInStep T2):=do
 let y←elem' b (j-1)
 if (j-1==1)=true then pure (.done (some (Ky a b (o.push y) i (j-1)),i,j-1,o.push y,mg,k,bc))else Qe a b (o.push y) i (j-1) mg k bc
def EB(a b o:Array Keyed)(i j mg ac bc:Nat):StateT SortSt Sem (ForInStep T2):=do
 setG mg
 let y←elem' b (j-1)
 let z←Y5 false y a 0 i (i-1)
 match z with
 |some t=>if i-t>0 then(if (t==0)=true then pure (.done (some (EA a b (o++(a.extract t i).reverse) t j),t,j,o++(a.extract t i).reverse,mg,i-t,bc))else NY a b (o++(a.extract t i).reverse) t j mg (i-t) bc)else NY a b o i j mg (i-t) bc
 | _=>pure (.done (some (EA a b o i j),i,j,o,mg,ac,bc))
def Qf(a b:Array Keyed)(c:T2):StateT SortSt Sem (ForInStep T2):=if c.2.2.2.2.1>1 then EB a b c.2.2.2.1 c.2.1 c.2.2.1 (c.2.2.2.2.1-1) c.2.2.2.2.2.1 c.2.2.2.2.2.2 else EB a b c.2.2.2.1 c.2.1 c.2.2.1 c.2.2.2.2.1 c.2.2.2.2.2.1 c.2.2.2.2.2.2
def Qg(a b:Array Keyed)(c:T3):StateT SortSt Sem (ForInStep T3):=do
 let t←forIn [0:a.size+b.size] ((none,c.2.1,c.2.2.1,c.2.2.2.1,0,0):T1) (fun _=>Qd a b c.2.2.2.2)
 match t.1 with
 |some r=>pure (.done (some r,t.2.1,t.2.2.1,t.2.2.2.1,c.2.2.2.2))
 |none=>do
  liftM (rule "list.sort.gallop")
  let u←forIn [0:a.size+b.size] ((none,t.2.1,t.2.2.1,t.2.2.2.1,c.2.2.2.2+1,t.2.2.2.2.1,t.2.2.2.2.2):T2) (fun _=>Qf a b)
  match u.1 with
  |some r=>pure (.done (some r,u.2.1,u.2.2.1,u.2.2.2.1,u.2.2.2.2.1))
  |none=>do
   setG (u.2.2.2.2.1+1)
   pure (.yield (none,u.2.1,u.2.2.1,u.2.2.2.1,u.2.2.2.2.1+1))
theorem FK(a b:Array Keyed):Ji a b=(do
 liftM (rule "list.sort.merge-hi")
 let x←elem' a (a.size-1)
 if (a.size-1==0)=true then pure (EA a b #[x] (a.size-1) b.size)
 else if (b.size==1)=true then pure (Ky a b #[x] (a.size-1) b.size)
 else do
  let g←get
  let t←forIn [0:a.size+b.size] ((none,a.size-1,b.size,#[x],gallopOf g):T3) (fun _=>Qg a b)
  match t.1 with
  |some r=>pure r
  |none=>unsupported "internal:list.sort.merge-bound"):=by kernel_rfl
theorem kO{α:Type}{l:List α}{i:Nat}{x:α}:x∈l.drop i↔∃t:Nat,l[i+t]?=some x:=by
 rw[List.mem_iff_getElem?];simp only[List.getElem?_drop]
theorem rN{α:Type}{l:List α}{i k:Nat}{x:α}:x∈(l.drop i).take k↔∃t:Nat,t<k∧l[i+t]?=some x:=by
 rw[List.mem_iff_getElem?];constructor
 ·rintro⟨t,ht⟩;rw[List.getElem?_take]at ht;split at ht
  ·rw[List.getElem?_drop]at ht;exact⟨t,by assumption,ht⟩
  ·cases ht
 ·rintro⟨t,h1,h2⟩;exact⟨t,by rw[List.getElem?_take,XH h1,List.getElem?_drop];exact h2⟩
theorem nM{α:Type}{l:List α}{i:Nat}{x:α}(h:l[i]?=some x):l.drop i=x::l.drop (i+1):=by
 obtain⟨h1,h2⟩:=Xv h;rw[List.drop_eq_getElem_cons h1,h2]
theorem nN{α:Type}(l:List α)(i k:Nat):l.drop i=(l.drop i).take k++l.drop (i+k):=by
 rw[←List.drop_drop,List.take_append_drop]
abbrev Pw(lt:Keyed→Keyed→Bool)(l:List Keyed):Prop:=l.Pairwise fun x y=>lt x y=true
theorem Pw.at{lt:Keyed→Keyed→Bool}{l:List Keyed}(h:Pw lt l){i j:Nat}{x y:Keyed}(sX:i<j)(hx:l[i]?=some x)(hy:l[j]?=some y):lt x y=true:=by
 obtain⟨h1,e1⟩:=Xv hx;obtain⟨h2,e2⟩:=Xv hy;have:=List.pairwise_iff_getElem.mp h i j h1 h2 sX;rw[e1,e2]at this;exact this
section
variable{X:List Keyed}{lt:Keyed→Keyed→Bool}{P Q:List Keyed}
structure MC(X:List Keyed)(lt:Keyed→Keyed→Bool)(P Q:List Keyed):Prop where
 sa:Pw lt P
 sb:Pw lt Q
 ia:∀x∈P,x∈X
 ib:∀x∈Q,x∈X
 ne:∀x∈P,∀y∈Q,x≠y
 fst:∀x∈P,∀y,Q[0]?=some y→lt y x=true
 lst:∀y∈Q,∀x,P[P.length-1]?=some x→lt y x=true
structure ML(lt:Keyed→Keyed→Bool)(P Q O:List Keyed)(i j:Nat):Prop where
 hi:i≤P.length
 hj:j≤Q.length
 tq:Pw lt O
 low:∀x∈O,∀y,y∈P.drop i∨y∈Q.drop j→lt x y=true
 FN:(O++(P.drop i++Q.drop j)).Perm (P++Q)
def MG(lt:Keyed→Keyed→Bool)(P Q R:List Keyed):Prop:=R.Perm (P++Q)∧Pw lt R
theorem ML.a{O:List Keyed}{i j k:Nat}(M:MC X lt P Q)(m:ML lt P Q O i j)(hk:i+k≤P.length)(h:∀x∈(P.drop i).take k,∀y∈Q.drop j,lt x y=true):ML lt P Q (O++(P.drop i).take k) (i+k) j:=by
 have sp:=nN P i k;have sd:Pw lt (P.drop i):=M.sa.sublist (List.drop_sublist _ _);rw[sp]at sd;obtain⟨s1,s2,s3⟩:=List.pairwise_append.mp sd;refine⟨hk,m.hj,List.pairwise_append.mpr ⟨m.tq,s1,fun x hx y hy=>m.low x hx y (.inl (List.mem_of_mem_take hy))⟩,fun x hx y hy=>?_,?_⟩
 ·rcases List.mem_append.mp hx with hx|hx
  ·exact m.low x hx y (hy.imp (fun z=>by rw[sp];exact List.mem_append_right _ z) id)
  ·rcases hy with hy|hy
   ·exact s3 x hx y hy
   ·exact h x hx y hy
 ·have:=m.FN;rw[sp]at this;rw[List.append_assoc,←List.append_assoc ((P.drop i).take k)];exact this
theorem ML.b{O:List Keyed}{i j k:Nat}(M:MC X lt P Q)(m:ML lt P Q O i j)(hk:j+k≤Q.length)(h:∀y∈(Q.drop j).take k,∀x∈P.drop i,lt y x=true):ML lt P Q (O++(Q.drop j).take k) i (j+k):=by
 have sp:=nN Q j k;have sd:Pw lt (Q.drop j):=M.sb.sublist (List.drop_sublist _ _);rw[sp]at sd;obtain⟨s1,s2,s3⟩:=List.pairwise_append.mp sd;refine⟨m.hi,hk,List.pairwise_append.mpr ⟨m.tq,s1,fun x hx y hy=>m.low x hx y (.inr (List.mem_of_mem_take hy))⟩,fun x hx y hy=>?_,?_⟩
 ·rcases List.mem_append.mp hx with hx|hx
  ·exact m.low x hx y (hy.imp id (fun z=>by rw[sp];exact List.mem_append_right _ z))
  ·rcases hy with hy|hy
   ·exact h x hx y hy
   ·exact s3 x hx y hy
 ·have:=m.FN;rw[sp]at this;refine List.Perm.trans ?_ this;rw[List.append_assoc];refine List.Perm.append_left O ?_;rw[←List.append_assoc,←List.append_assoc];exact List.Perm.append_right _ List.perm_append_comm
theorem ML.dn{O:List Keyed}{i j:Nat}(M:MC X lt P Q)(m:ML lt P Q O i j)(h:i=P.length∨j=Q.length):MG lt P Q (O++P.drop i++Q.drop j):=by
 refine⟨by rw[List.append_assoc];exact m.FN,?_⟩;have sa:Pw lt (P.drop i):=M.sa.sublist (List.drop_sublist _ _);have sb:Pw lt (Q.drop j):=M.sb.sublist (List.drop_sublist _ _);rw[List.append_assoc];refine List.pairwise_append.mpr ⟨m.tq,List.pairwise_append.mpr ⟨sa,sb,fun x hx y hy=>?_⟩,fun x hx y hy=>m.low x hx y (List.mem_append.mp hy)⟩;rcases h with h|h
 ·rw[h,List.drop_length]at hx;cases hx
 ·rw[h,List.drop_length]at hy;cases hy
theorem ML.ls{O:List Keyed}{i j:Nat}(M:MC X lt P Q)(m:ML lt P Q O i j)(h:i+1=P.length):MG lt P Q (O++Q.drop j++P.drop i):=by
 have sa:Pw lt (P.drop i):=M.sa.sublist (List.drop_sublist _ _);have sb:Pw lt (Q.drop j):=M.sb.sublist (List.drop_sublist _ _);rw[List.append_assoc];refine⟨(List.Perm.append_left O List.perm_append_comm).trans m.FN,List.pairwise_append.mpr ⟨m.tq,List.pairwise_append.mpr ⟨sb,sa,fun y hy x hx=>?_⟩,fun x hx y hy=>m.low x hx y (List.mem_append.mp hy).symm⟩⟩;obtain⟨t,ht⟩:=kO.mp hx;have hl:=(Xv ht).1;exact M.lst y (List.mem_of_mem_drop hy) x (by rw[←ht];congr 1;lia)
end
def Eg(st aP:SortSt):Prop:=kindOf aP=kindOf st∧arrOf aP=arrOf st∧pendingOf aP=pendingOf st∧failedOf aP=failedOf st
theorem Eg.refl(st:SortSt):Eg st st:=⟨rfl,rfl,rfl,rfl⟩
theorem Eg.trans{a b c:SortSt}(h:Eg a b)(k:Eg b c):Eg a c:=⟨k.1.trans h.1,k.2.1.trans h.2.1,k.2.2.1.trans h.2.2.1,k.2.2.2.trans h.2.2.2⟩
section
variable{prog:Program}{w:World}{A:Around}{E:Value→Shared→Prop}{s:Shared}{X:List Keyed}{κ:SortKind}{lt:Keyed→Keyed→Bool}(C:DB prog w A s X κ lt){a b:Array Keyed}(M:MC X lt a.toList b.toList)
theorem q_{st:SortSt}{g:Nat}{Q:Unit→SortSt→Prop}(h:∀aP,Eg st aP→Q () aP):wpS (model prog w) A E s (setG g) Q st:=wpS_modify (h _ ⟨rfl,rfl,rfl,rfl⟩)
theorem YH(o:Array Keyed)(i j:Nat):(Ez a b o i j).toList=o.toList++a.toList.drop i++b.toList.drop j:=by
 unfold Ez;simp[Array.toList_extract,List.extract_eq_take_drop];rw[List.take_of_length_le XN,List.take_of_length_le XN]
theorem Ao(o:Array Keyed)(i j:Nat):(Kx a b o i j).toList=o.toList++b.toList.drop j++a.toList.drop i:=by
 unfold Kx;simp[Array.toList_extract,List.extract_eq_take_drop];rw[List.take_of_length_le XN,List.take_of_length_le XN]
theorem Hb(o:Array Keyed)(c:Array Keyed)(i k:Nat):(o++c.extract i (i+k)).toList=o.toList++(c.toList.drop i).take k:=by
 simp[Array.toList_extract,List.extract_eq_take_drop]
theorem EC{l:List Keyed}{i:Nat}{x:Keyed}(h:l[i]?=some x):(l.drop i).take 1=[x]:=by rw[nM h];simp
def Ap(lt:Keyed→Keyed→Bool)(a b:Array Keyed)(o:Array Keyed)(i j m:Nat):Prop:=ML lt a.toList b.toList o.toList i j∧i+1<a.size∧j<b.size∧m≤i+j
def P2(lt:Keyed→Keyed→Bool)(a b:Array Keyed)(m:Nat)(st:SortSt)(r:ForInStep S2)(aP:SortSt):Prop:=Eg st aP∧match r with
 | .done c=>(∃x,c.1=some x∧MG lt a.toList b.toList x.toList)∨(c.1=none∧Ap lt a b c.2.1 c.2.2.1 c.2.2.2.1 m)
 | .yield c=>c.1=none∧Ap lt a b c.2.1 c.2.2.1 c.2.2.2.1 m
include C M
theorem DC{st:SortSt}{o:Array Keyed}{i j mg k l m:Nat}(ml:ML lt a.toList b.toList o.toList i j)(hi:i+1<a.size)(hj:j<b.size)(hm:m≤i+j+1)(h:∀x,a.toList[i]?=some x→∀y∈b.toList.drop j,lt x y=true):wpS (model prog w) A E s (NU a b o i j mg k l) (P2 lt a b m st) st:=by
 unfold NU;have ex:a[i]?=some a[i]:=XX;have f':a.toList[i]?=some a[i]:=by rw[Array.getElem?_toList];exact ex
 refine wpS_bind (eI ex ?_);have m2:ML lt a.toList b.toList (o.push a[i]).toList (i+1) j:=by
  have:=ml.a M (k:=1) (by simp;lia) (fun x hx y hy=>by
   rw[EC f']at hx;have:x=a[i]:=by simpa using hx
   rw[this];exact h _ f' y hy)
  rw[EC f']at this;rw[Array.toList_push];exact this
 by_cases e:(i+1+1==a.size)=true
 ·rw[XH e];refine wpS_pure ⟨.refl _, .inl ⟨_,rfl,?_⟩⟩;rw[Ao];exact m2.ls M (by have:=beq_iff_eq.mp e;simp;lia)
 ·rw[XE e];have e:i+1+1≠a.size:=fun z=>e (beq_iff_eq.mpr z)
  split
  ·exact wpS_pure ⟨.refl _, .inr ⟨rfl,m2,by show i+1+1<a.size;lia,hj,by show m≤i+1+j;lia⟩⟩
  ·exact wpS_pure ⟨.refl _,rfl,m2,by show i+1+1<a.size;lia,hj,by show m≤i+1+j;lia⟩
theorem Jj{st:SortSt}{o:Array Keyed}{i j mg k bc m:Nat}(hk:kindOf st=κ)(ml:ML lt a.toList b.toList o.toList i j)(hi:i+1<a.size)(hj:j<b.size)(hm:m≤i+j+1):wpS (model prog w) A E s (Qa a b o i j mg k bc) (P2 lt a b m st) st:=by
 unfold Qa;have ex:a[i]?=some a[i]:=XX;have f':a.toList[i]?=some a[i]:=by rw[Array.getElem?_toList];exact ex
 have hx:a[i]∈a.toList:=XF f';refine wpS_bind (eI ex ?_);generalize a[i]=x at ex f' hx;have gb:∀t,t<b.size-j→b[j+t]?=some (b.getD (j+t) (.none, .none)):=fun t ht=>by simp[show j+t<b.size by lia]
 have qC:∀t,t<b.size-j→b.toList[j+t]?=some (b.getD (j+t) (.none, .none)):=fun t ht=>by rw[Array.getElem?_toList];exact gb t ht
 refine wpS_bind (pM C (fun t=>b.getD (j+t) (.none, .none)) hk (M.ia _ hx) (fun t ht=>⟨gb t ht,M.ib _ (XF (qC t ht))⟩) (fun t u h1 h2=>M.sb.at (i:=j+t) (j:=j+u) (by lia) (qC t (by lia)) (qC u h2)) (by lia) fun l hl h1 h2=>?_);dsimp only;have low:∀y∈(b.toList.drop j).take l,∀z∈a.toList.drop i,lt y z=true:=fun y hy z hz=>by
  obtain⟨t,ht,et⟩:=rN.mp hy;rw[qC t (by lia)]at et;cases et;have hb:=h1 t ht;simp only[ky,if_true]at hb;rw[nM f']at hz;rcases List.mem_cons.mp hz with rfl|hz
  ·exact hb
  ·obtain⟨u,hu⟩:=kO.mp hz;exact C.tr _ (M.ib _ (XF (qC t (by lia)))) _ (M.ia _ hx) _ (M.ia _ (XF hu)) hb (M.sa.at XR f' hu)
 have X0:∀y∈b.toList.drop (j+l),lt x y=true:=fun y hy=>by
  obtain⟨t,ht⟩:=kO.mp hy;have gK:=(Xv ht).1;have gK:j+l+t<b.size:=by simpa using gK
  have hb:=h2 (l+t) (by lia) (by lia);have e:b.toList[j+(l+t)]?=some y:=by rw[←Nat.add_assoc];exact ht
  rw[qC (l+t) (by lia)]at e;have e:=XM e;simp only[ky,if_true]at hb;rw[e]at hb;exact C.no (M.ib _ (XF ht)) (M.ia _ hx) (fun z=>M.ne _ hx _ (XF ht) z.symm) hb
 have m2:ML lt a.toList b.toList (o++b.extract j (j+l)).toList i (j+l):=by
  rw[Hb];exact ml.b M (by simp;lia) low
 by_cases Jk:l>0
 ·rw[XH Jk];by_cases e:(j+l==b.size)=true
  ·rw[XH e];refine wpS_pure ⟨.refl _, .inl ⟨_,rfl,?_⟩⟩;rw[YH];exact m2.dn M (.inr (by have:=beq_iff_eq.mp e;simpa using this))
  ·rw[XE e];have e:j+l≠b.size:=fun z=>e (beq_iff_eq.mpr z)
   exact DC C M m2 hi XR (by lia) fun y hy=>by rw[f']at hy;cases hy;exact X0
 ·rw[XE Jk];have:l=0:=by lia
  subst this;exact DC C M ml hi hj hm fun y hy=>by rw[f']at hy;cases hy;exact X0
theorem DD{st:SortSt}{o:Array Keyed}{i j mg k bc m:Nat}(hk:kindOf st=κ)(ml:ML lt a.toList b.toList o.toList i j)(hi:i+1<a.size)(hj:j<b.size)(hm:m≤i+j+2)(h:∀y,b.toList[j]?=some y→∀x∈a.toList.drop i,lt y x=true):wpS (model prog w) A E s (NV a b o i j mg k bc) (P2 lt a b m st) st:=by
 unfold NV;have ex:b[j]?=some b[j]:=XX;have f':b.toList[j]?=some b[j]:=by rw[Array.getElem?_toList];exact ex
 refine wpS_bind (eI ex ?_);have m2:ML lt a.toList b.toList (o.push b[j]).toList i (j+1):=by
  have:=ml.b M (k:=1) (by simp;lia) (fun x hx y hy=>by
   rw[EC f']at hx;have:x=b[j]:=by simpa using hx
   rw[this];exact h _ f' y hy)
  rw[EC f']at this;rw[Array.toList_push];exact this
 by_cases e:(j+1==b.size)=true
 ·rw[XH e];refine wpS_pure ⟨.refl _, .inl ⟨_,rfl,?_⟩⟩;rw[YH];exact m2.dn M (.inr (by have:=beq_iff_eq.mp e;simpa using this))
 ·rw[XE e];have e:j+1≠b.size:=fun z=>e (beq_iff_eq.mpr z)
  exact Jj C M hk m2 hi XR (by lia)
theorem DE{st:SortSt}{o:Array Keyed}{i j mg ac bc m:Nat}(hk:kindOf st=κ)(h:Ap lt a b o i j m):wpS (model prog w) A E s (NW a b o i j mg ac bc) (P2 lt a b (m+2) st) st:=by
 obtain⟨ml,hi,hj,hm⟩:=h;unfold NW;refine wpS_bind (q_ fun Y2 eg=>?_);have Hd:kindOf Y2=κ:=eg.1.trans hk;have fin:∀{m:Nat}{p:StateT SortSt Sem (ForInStep S2)},wpS (model prog w) A E s p (P2 lt a b m Y2) Y2→wpS (model prog w) A E s p (P2 lt a b m st) Y2:=fun h=>wpS_mono h fun r aP z=>⟨eg.trans z.1,z.2⟩
 refine fin ?_;have ex:b[j]?=some b[j]:=XX;have f':b.toList[j]?=some b[j]:=by rw[Array.getElem?_toList];exact ex
 have hx:b[j]∈b.toList:=XF f';refine wpS_bind (eI ex ?_);generalize b[j]=y at ex f' hx;have gb:∀t,t<a.size-i→a[i+t]?=some (a.getD (i+t) (.none, .none)):=fun t ht=>by simp[show i+t<a.size by lia]
 have qC:∀t,t<a.size-i→a.toList[i+t]?=some (a.getD (i+t) (.none, .none)):=fun t ht=>by rw[Array.getElem?_toList];exact gb t ht
 refine wpS_bind (pM C (fun t=>a.getD (i+t) (.none, .none)) Hd (M.ib _ hx) (fun t ht=>⟨gb t ht,M.ia _ (XF (qC t ht))⟩) (fun t u h1 h2=>M.sa.at (i:=i+t) (j:=i+u) (by lia) (qC t (by lia)) (qC u h2)) (by lia) fun k hl h1 h2=>?_);dsimp only;have low:∀x∈(a.toList.drop i).take k,∀z∈b.toList.drop j,lt x z=true:=fun x sY z hz=>by
  obtain⟨t,ht,et⟩:=rN.mp sY;rw[qC t (by lia)]at et;cases et;have iJ:=XF (qC t (by lia));have hb:=h1 t ht;simp only[ky,Bool.false_eq_true,if_false,Bool.not_eq_true']at hb;have hb:=C.no (M.ib _ hx) (M.ia _ iJ) (fun z=>M.ne _ iJ _ hx z.symm) hb;rw[nM f']at hz;rcases List.mem_cons.mp hz with rfl|hz
  ·exact hb
  ·obtain⟨u,hu⟩:=kO.mp hz;exact C.tr _ (M.ia _ iJ) _ (M.ib _ hx) _ (M.ib _ (XF hu)) hb (M.sb.at XR f' hu)
 have X0:∀x∈a.toList.drop (i+k),lt y x=true:=fun x sY=>by
  obtain⟨t,ht⟩:=kO.mp sY;have gK:=(Xv ht).1;have gK:i+k+t<a.size:=by simpa using gK
  have hb:=h2 (k+t) (by lia) (by lia);have e:a.toList[i+(k+t)]?=some x:=by rw[←Nat.add_assoc];exact ht
  rw[qC (k+t) (by lia)]at e;have e:=XM e;simp only[ky,Bool.false_eq_true,if_false,Bool.not_eq_false']at hb;rw[e]at hb;exact hb
 have m2:ML lt a.toList b.toList (o++a.extract i (i+k)).toList (i+k) j:=by
  rw[Hb];exact ml.a M (by simp;lia) low
 by_cases Bt:k>0
 ·rw[XH Bt];by_cases e:(i+k+1==a.size)=true
  ·rw[XH e];refine wpS_pure ⟨.refl _, .inl ⟨_,rfl,?_⟩⟩;rw[Ao];exact m2.ls M (by have:=beq_iff_eq.mp e;simpa using this)
  ·rw[XE e];have e:i+k+1≠a.size:=fun z=>e (beq_iff_eq.mpr z)
   by_cases e2:(i+k==a.size)=true
   ·rw[XH e2];refine wpS_pure ⟨.refl _, .inl ⟨_,rfl,?_⟩⟩;rw[YH];exact m2.dn M (.inl (by have:=beq_iff_eq.mp e2;simpa using this))
   ·rw[XE e2];have e2:i+k≠a.size:=fun z=>e2 (beq_iff_eq.mpr z)
    exact DD C M Hd m2 XR hj XR fun z hz=>by rw[f']at hz;cases hz;exact X0
 ·rw[XE Bt];have:k=0:=by lia
  subst this;exact DD C M Hd ml hi hj XR fun z hz=>by rw[f']at hz;cases hz;exact X0
theorem Jl{st:SortSt}{c:S2}{m:Nat}(hk:kindOf st=κ)(h:Ap lt a b c.2.1 c.2.2.1 c.2.2.2.1 m):wpS (model prog w) A E s (Qb a b c) (P2 lt a b (m+2) st) st:=by
 unfold Qb;split
 ·exact DE C M hk h
 ·exact DE C M hk h
theorem Jm{st:SortSt}{c:S1}{mg m:Nat}(hk:kindOf st=κ)(h:Ap lt a b c.2.1 c.2.2.1 c.2.2.2.1 m):wpS (model prog w) A E s (lo1 a b mg c) (fun r aP=>aP=st∧match r with
  | .done c=>(∃x,c.1=some x∧MG lt a.toList b.toList x.toList)∨(c.1=none∧Ap lt a b c.2.1 c.2.2.1 c.2.2.2.1 (m+1))
  | .yield c=>c.1=none∧Ap lt a b c.2.1 c.2.2.1 c.2.2.2.1 (m+1)) st:=by
 obtain⟨r,o,i,j,ac,bc⟩:=c;obtain⟨ml,hi,hj,hm⟩:=h;dsimp only at ml hi hj hm;unfold lo1;dsimp only;have ex:a[i]?=some a[i]:=XX;have f':a.toList[i]?=some a[i]:=by rw[Array.getElem?_toList];exact ex
 have ey:b[j]?=some b[j]:=XX;have X1:b.toList[j]?=some b[j]:=by rw[Array.getElem?_toList];exact ey
 have hx:a[i]∈a.toList:=XF f';have hy:b[j]∈b.toList:=XF X1;refine wpS_bind (eI ey (wpS_bind (eI ex ?_)));generalize a[i]=x at ex f' hx;generalize b[j]=y at ey X1 hy;refine wpS_bind (C.ask hk (M.ib _ hy) (M.ia _ hx) ?_);dsimp only;cases e:lt y x with
 |true=>
  rw[if_pos rfl];refine wpS_bind (eI ey ?_);have m2:ML lt a.toList b.toList (o.push y).toList i (j+1):=by
   have:=ml.b M (k:=1) (by simp;lia) (fun y' Mr z hz=>by
    rw[EC X1]at Mr;have:y'=y:=by simpa using Mr
    rw[this];rw[nM f']at hz;rcases List.mem_cons.mp hz with rfl|hz
    ·exact e
    ·obtain⟨u,hu⟩:=kO.mp hz;exact C.tr _ (M.ib _ hy) _ (M.ia _ hx) _ (M.ia _ (XF hu)) e (M.sa.at XR f' hu))
   rw[EC X1]at this;rw[Array.toList_push];exact this
  by_cases e2:(j+1==b.size)=true
  ·rw[XH e2];refine wpS_pure ⟨rfl, .inl ⟨_,rfl,?_⟩⟩;rw[YH];exact m2.dn M (.inr (by have:=beq_iff_eq.mp e2;simpa using this))
  ·rw[XE e2];have e2:j+1≠b.size:=fun z=>e2 (beq_iff_eq.mpr z)
   split
   ·exact wpS_pure ⟨rfl, .inr ⟨rfl,m2,hi,by show j+1<b.size;lia,by show m+1≤i+(j+1);lia⟩⟩
   ·exact wpS_pure ⟨rfl,rfl,m2,hi,by show j+1<b.size;lia,by show m+1≤i+(j+1);lia⟩
 |false=>
  rw[if_neg XN];refine wpS_bind (eI ex ?_);have e:=C.no (M.ib _ hy) (M.ia _ hx) (fun z=>M.ne _ hx _ hy z.symm) e;have m2:ML lt a.toList b.toList (o.push x).toList (i+1) j:=by
   have:=ml.a M (k:=1) (by simp;lia) (fun x' sY z hz=>by
    rw[EC f']at sY;have:x'=x:=by simpa using sY
    rw[this];rw[nM X1]at hz;rcases List.mem_cons.mp hz with rfl|hz
    ·exact e
    ·obtain⟨u,hu⟩:=kO.mp hz;exact C.tr _ (M.ia _ hx) _ (M.ib _ hy) _ (M.ib _ (XF hu)) e (M.sb.at XR X1 hu))
   rw[EC f']at this;rw[Array.toList_push];exact this
  by_cases e2:(i+1+1==a.size)=true
  ·rw[XH e2];refine wpS_pure ⟨rfl, .inl ⟨_,rfl,?_⟩⟩;rw[Ao];exact m2.ls M (by have:=beq_iff_eq.mp e2;simpa using this)
  ·rw[XE e2];have e2:i+1+1≠a.size:=fun z=>e2 (beq_iff_eq.mpr z)
   split
   ·exact wpS_pure ⟨rfl, .inr ⟨rfl,m2,by show i+1+1<a.size;lia,hj,by show m+1≤i+1+j;lia⟩⟩
   ·exact wpS_pure ⟨rfl,rfl,m2,by show i+1+1<a.size;lia,hj,by show m+1≤i+1+j;lia⟩
theorem Jn{st:SortSt}{c:S3}{m:Nat}(hk:kindOf st=κ)(h:Ap lt a b c.2.1 c.2.2.1 c.2.2.2.1 m):wpS (model prog w) A E s (Qc a b c) (fun r aP=>Eg st aP∧match r with
  | .done c=>∃x,c.1=some x∧MG lt a.toList b.toList x.toList
  | .yield c=>c.1=none∧Ap lt a b c.2.1 c.2.2.1 c.2.2.2.1 (m+1)) st:=by
 unfold Qc;refine wpS_bind (wpS_mono (wpS_forRange (I:=fun x c aP=>aP=st∧c.1=none∧Ap lt a b c.2.1 c.2.2.1 c.2.2.2.1 (m+x)) (Q:=fun c aP=>aP=st∧((∃x,c.1=some x∧MG lt a.toList b.toList x.toList)∨(c.1=none∧Ap lt a b c.2.1 c.2.2.1 c.2.2.2.1 (m+1)))) ?_ ?_ ⟨rfl,rfl,h⟩) ?_)
 ·rintro x c aP _ hx ⟨rfl,hc,hI⟩;refine wpS_mono (Jm C M hk hI) fun r aP hr=>?_
  obtain⟨rfl,hr⟩:=hr;cases r with
  |done c=>exact⟨rfl,hr.imp id fun z=>⟨z.1,z.2.1,z.2.2.1,z.2.2.2.1,by have:=z.2.2.2.2;lia⟩⟩
  |yield c=>exact⟨rfl,hr.1,hr.2⟩
 ·rintro c aP ⟨rfl,hc,h1,h2,h3,h4⟩
  lia
 rintro t aP ⟨rfl,ht⟩;rcases ht with⟨x,e,hg⟩|⟨e,hI⟩
 ·rw[e];exact wpS_pure ⟨.refl _,x,rfl,hg⟩
 rw[e];dsimp only;refine wpS_bind (wpS_lift (wpAny_rule ⟨rfl,?_⟩));refine wpS_bind (wpS_mono (wpS_forRange (I:=fun x c dF=>Eg aP dF∧c.1=none∧Ap lt a b c.2.1 c.2.2.1 c.2.2.2.1 (m+1+x)) (Q:=fun c dF=>Eg aP dF∧((∃x,c.1=some x∧MG lt a.toList b.toList x.toList)∨(c.1=none∧Ap lt a b c.2.1 c.2.2.1 c.2.2.2.1 (m+1)))) ?_ ?_ ⟨.refl _,rfl,hI⟩) ?_)
 ·rintro x c dF _ hx ⟨eg,hc,hI⟩;refine wpS_mono (Jl C M (eg.1.trans hk) hI) fun r Co hr=>?_
  obtain⟨DF,hr⟩:=hr;cases r with
  |done c=>exact⟨eg.trans DF,hr.imp id fun z=>⟨z.1,z.2.1,z.2.2.1,z.2.2.2.1,by have:=z.2.2.2.2;lia⟩⟩
  |yield c=>exact⟨eg.trans DF,hr.1,hr.2.1,hr.2.2.1,hr.2.2.2.1,by have:=hr.2.2.2.2;lia⟩
 ·rintro c dF ⟨eg,hc,h1,h2,h3,h4⟩
  lia
 rintro u dF ⟨eg,hu⟩;rcases hu with⟨x,e,hg⟩|⟨e,hI⟩
 ·rw[e];exact wpS_pure ⟨eg,x,rfl,hg⟩
 rw[e];dsimp only;exact wpS_bind (q_ fun Co Qh=>wpS_pure ⟨eg.trans Qh,rfl,hI⟩)
theorem Jo{st:SortSt}{Q:Array Keyed→SortSt→Prop}(hk:kindOf st=κ)(ha:0<a.size)(hb:0<b.size)(q:∀r aP,Eg st aP→MG lt a.toList b.toList r.toList→Q r aP):wpS (model prog w) A E s (Jh a b) Q st:=by
 rw[FJ];refine wpS_bind (wpS_lift (wpAny_rule ⟨rfl,?_⟩));have ey:b[0]?=some b[0]:=XX;have X1:b.toList[0]?=some b[0]:=by rw[Array.getElem?_toList];exact ey
 refine wpS_bind (eI ey ?_);have m0:ML lt a.toList b.toList [] 0 0:=⟨XX,XX, .nil,fun x hx=>(by cases hx),XX⟩
 have m1:ML lt a.toList b.toList (#[b[0]]:Array Keyed).toList 0 1:=by
  have:=m0.b M (k:=1) (by simp;lia) (fun y hy x hx=>by
   rw[EC X1]at hy;have:y=b[0]:=by simpa using hy
   rw[this];exact M.fst x (List.mem_of_mem_drop hx) _ X1)
  rw[EC X1]at this;exact this
 by_cases e:(1==b.size)=true
 ·rw[XH e];refine wpS_pure (q _ _ (.refl _) ?_);rw[YH];exact m1.dn M (.inr (by have:=beq_iff_eq.mp e;simpa using this))
 rw[XE e];have e:1≠b.size:=fun z=>e (beq_iff_eq.mpr z)
 by_cases e2:(0+1==a.size)=true
 ·rw[XH e2];refine wpS_pure (q _ _ (.refl _) ?_);rw[Ao];exact m1.ls M (by have:=beq_iff_eq.mp e2;simpa using this)
 rw[XE e2];have e2:0+1≠a.size:=fun z=>e2 (beq_iff_eq.mpr z)
 refine wpS_bind (wpS_get ?_);refine wpS_bind (wpS_mono (wpS_forRange (I:=fun x c dF=>Eg st dF∧c.1=none∧Ap lt a b c.2.1 c.2.2.1 c.2.2.2.1 x) (Q:=fun c dF=>Eg st dF∧∃x,c.1=some x∧MG lt a.toList b.toList x.toList) ?_ ?_ ⟨.refl _,rfl,m1,by show 0+1<a.size;lia,by show 1<b.size;lia,by show 0≤0+1;lia⟩) ?_)
 ·rintro x c dF _ hx ⟨eg,hc,hI⟩;refine wpS_mono (Jn C M (eg.1.trans hk) hI) fun r Co hr=>?_
  obtain⟨DF,hr⟩:=hr;cases r with
  |done c=>exact⟨eg.trans DF,hr⟩
  |yield c=>exact⟨eg.trans DF,hr⟩
 ·rintro c dF ⟨eg,hc,h1,h2,h3,h4⟩
  lia
 ·rintro c dF ⟨eg,x,e,hg⟩;rw[e];exact wpS_pure (q x dF eg hg)
end
theorem vA{α:Type}{l:List α}{i:Nat}{x:α}:x∈l.take i↔∃t:Nat,t<i∧l[t]?=some x:=by
 have:=rN (l:=l) (i:=0) (k:=i) (x:=x);simpa using this
theorem Yz{α:Type}{l:List α}{i t:Nat}{x:α}:x∈(l.take i).drop t↔∃u:Nat,t≤u∧u<i∧l[u]?=some x:=by
 rw[kO];constructor
 ·rintro⟨u,hu⟩;rw[List.getElem?_take]at hu;split at hu
  ·exact⟨t+u,by lia,by assumption,hu⟩
  ·cases hu
 ·rintro⟨u,h1,h2,h3⟩;exact⟨u-t,by rw[List.getElem?_take,XH XR,show t+(u-t)=u by lia];exact h3⟩
theorem Yn{α:Type}(l:List α){i t:Nat}(h:t≤i):l.take i=l.take t++(l.take i).drop t:=by
 conv=>lhs;rw[←List.take_append_drop t (l.take i)]
 rw[List.take_take,Nat.min_eq_left h]
section
variable{X:List Keyed}{lt:Keyed→Keyed→Bool}{P Q:List Keyed}
structure MH(lt:Keyed→Keyed→Bool)(P Q O:List Keyed)(i j:Nat):Prop where
 hi:i≤P.length
 hj:j≤Q.length
 tq:Pw lt O
 X0:∀y∈O,∀x,x∈P.take i∨x∈Q.take j→lt x y=true
 FN:((P.take i++Q.take j)++O).Perm (P++Q)
theorem MH.a{O:List Keyed}{i j t:Nat}(M:MC X lt P Q)(m:MH lt P Q O i j)(ht:t≤i)(h:∀x∈(P.take i).drop t,∀y∈Q.take j,lt y x=true):MH lt P Q ((P.take i).drop t++O) t j:=by
 have sp:=Yn P ht;have sd:Pw lt (P.take i):=M.sa.sublist (List.take_sublist _ _);rw[sp]at sd;obtain⟨s1,s2,s3⟩:=List.pairwise_append.mp sd;refine⟨by have:=m.hi;lia,m.hj,List.pairwise_append.mpr ⟨s2,m.tq,fun x hx y hy=>m.X0 y hy x (.inl (List.mem_of_mem_drop hx))⟩,fun y hy x hx=>?_,?_⟩
 ·rcases List.mem_append.mp hy with hy|hy
  ·rcases hx with hx|hx
   ·exact s3 x hx y hy
   ·exact h y hy x hx
  ·exact m.X0 y hy x (hx.imp (fun z=>by rw[sp];exact List.mem_append_left _ z) id)
 ·have:=m.FN;rw[sp]at this;refine List.Perm.trans ?_ this;rw[←List.append_assoc];refine List.Perm.append_right O ?_;rw[List.append_assoc,List.append_assoc];exact List.Perm.append_left _ List.perm_append_comm
theorem MH.b{O:List Keyed}{i j t:Nat}(M:MC X lt P Q)(m:MH lt P Q O i j)(ht:t≤j)(h:∀y∈(Q.take j).drop t,∀x∈P.take i,lt x y=true):MH lt P Q ((Q.take j).drop t++O) i t:=by
 have sp:=Yn Q ht;have sd:Pw lt (Q.take j):=M.sb.sublist (List.take_sublist _ _);rw[sp]at sd;obtain⟨s1,s2,s3⟩:=List.pairwise_append.mp sd;refine⟨m.hi,by have:=m.hj;lia,List.pairwise_append.mpr ⟨s2,m.tq,fun x hx y hy=>m.X0 y hy x (.inr (List.mem_of_mem_drop hx))⟩,fun y hy x hx=>?_,?_⟩
 ·rcases List.mem_append.mp hy with hy|hy
  ·rcases hx with hx|hx
   ·exact h y hy x hx
   ·exact s3 x hx y hy
  ·exact m.X0 y hy x (hx.imp id (fun z=>by rw[sp];exact List.mem_append_left _ z))
 ·have:=m.FN;rw[sp]at this;rw[←List.append_assoc,List.append_assoc (P.take i)];exact this
theorem MH.dn{O:List Keyed}{i j:Nat}(M:MC X lt P Q)(m:MH lt P Q O i j)(h:i=0∨j=0):MG lt P Q (P.take i++Q.take j++O):=by
 refine⟨m.FN,?_⟩;have sa:Pw lt (P.take i):=M.sa.sublist (List.take_sublist _ _);have sb:Pw lt (Q.take j):=M.sb.sublist (List.take_sublist _ _);refine List.pairwise_append.mpr ⟨List.pairwise_append.mpr ⟨sa,sb,fun x hx y hy=>?_⟩,m.tq,fun x hx y hy=>m.X0 y hy x (List.mem_append.mp hx)⟩;rcases h with h|h
 ·rw[h,List.take_zero]at hx;cases hx
 ·rw[h,List.take_zero]at hy;cases hy
theorem MH.fb{O:List Keyed}{i j:Nat}(M:MC X lt P Q)(m:MH lt P Q O i j)(h:j=1):MG lt P Q (Q.take j++P.take i++O):=by
 have sa:Pw lt (P.take i):=M.sa.sublist (List.take_sublist _ _);have sb:Pw lt (Q.take j):=M.sb.sublist (List.take_sublist _ _);refine⟨(List.Perm.append_right O List.perm_append_comm).trans m.FN,List.pairwise_append.mpr ⟨List.pairwise_append.mpr ⟨sb,sa,fun y hy x hx=>?_⟩,m.tq,fun x hx y hy=>m.X0 y hy x (List.mem_append.mp hx).symm⟩⟩;obtain⟨t,h1,h2⟩:=vA.mp hy;have:t=0:=by lia
 subst this;exact M.fst x (List.mem_of_mem_take hx) y h2
end
section
variable{prog:Program}{w:World}{A:Around}{E:Value→Shared→Prop}{s:Shared}{X:List Keyed}{κ:SortKind}{lt:Keyed→Keyed→Bool}(C:DB prog w A s X κ lt){a b:Array Keyed}(M:MC X lt a.toList b.toList)
theorem YI(o:Array Keyed)(i j:Nat):(EA a b o i j).toList=a.toList.take i++b.toList.take j++o.toList.reverse:=by
 unfold EA;simp[Array.toList_extract,List.extract_eq_take_drop]
theorem Aq(o:Array Keyed)(i j:Nat):(Ky a b o i j).toList=b.toList.take j++a.toList.take i++o.toList.reverse:=by
 unfold Ky;simp[Array.toList_extract,List.extract_eq_take_drop]
theorem He(o:Array Keyed)(c:Array Keyed)(t i:Nat):(o++(c.extract t i).reverse).toList.reverse=(c.toList.take i).drop t++o.toList.reverse:=by
 simp[Array.toList_extract,List.extract_eq_take_drop,List.drop_take]
theorem As(o:Array Keyed)(x:Keyed):(o.push x).toList.reverse=[x]++o.toList.reverse:=XX
theorem ED{l:List Keyed}{i:Nat}{x:Keyed}(h0:0<i)(h:l[i-1]?=some x):(l.take i).drop (i-1)=[x]:=by
 have:l.take i=l.take (i-1)++[x]:=by
  conv=>lhs;rw[show i=i-1+1 by lia]
  rw[List.take_succ,h];rfl
 rw[this];have hl:=(Xv h).1;rw[List.drop_left' (by simp;lia)]
theorem rf{l:List Keyed}(C:DB prog w A s X κ lt)(hs:Pw lt l)(m3:∀x∈l,x∈X){i:Nat}{x z:Keyed}(h:l[i-1]?=some x)(hz:z∈l.take i){y:Keyed}(hy:y∈X)(Y1:lt x y=true):lt z y=true:=by
 obtain⟨t,h1,h2⟩:=vA.mp hz;by_cases e:t=i-1
 ·subst e;rw[h]at h2;cases h2;exact Y1
 ·exact C.tr _ (m3 _ (XF h2)) _ (m3 _ (XF h)) _ hy (hs.at XR h2 h) Y1
def Au(lt:Keyed→Keyed→Bool)(a b:Array Keyed)(o:Array Keyed)(i j m:Nat):Prop:=MH lt a.toList b.toList o.toList.reverse i j∧0<i∧1<j∧m+i+j≤a.size+b.size
def Jp(lt:Keyed→Keyed→Bool)(a b:Array Keyed)(m:Nat)(st:SortSt)(r:ForInStep T2)(aP:SortSt):Prop:=Eg st aP∧match r with
 | .done c=>(∃x,c.1=some x∧MG lt a.toList b.toList x.toList)∨(c.1=none∧Au lt a b c.2.2.2.1 c.2.1 c.2.2.1 m)
 | .yield c=>c.1=none∧Au lt a b c.2.2.2.1 c.2.1 c.2.2.1 m
include C M
theorem DG{st:SortSt}{o:Array Keyed}{i j mg k l m:Nat}(ml:MH lt a.toList b.toList o.toList.reverse i j)(hi:0<i)(hj:1<j)(hm:m+i+j≤a.size+b.size+1)(h:∀x,a.toList[i-1]?=some x→∀y∈b.toList.take j,lt y x=true):wpS (model prog w) A E s (NX a b o i j mg k l) (Jp lt a b m st) st:=by
 unfold NX;have Qi:i≤a.size:=by have:=ml.hi;simpa using this
 have ex:a[i-1]?=some a[i-1]:=XX;have f':a.toList[i-1]?=some a[i-1]:=by rw[Array.getElem?_toList];exact ex
 refine wpS_bind (eI ex ?_);have m2:MH lt a.toList b.toList (o.push a[i-1]).toList.reverse (i-1) j:=by
  have:=ml.a M (t:=i-1) (by lia) (fun x hx y hy=>by
   rw[ED hi f']at hx;have:x=a[i-1]:=by simpa using hx
   rw[this];exact h _ f' y hy)
  rw[ED hi f']at this;rw[As];exact this
 by_cases e:(i-1==0)=true
 ·rw[XH e];refine wpS_pure ⟨.refl _, .inl ⟨_,rfl,?_⟩⟩;rw[YI];exact m2.dn M (.inl (beq_iff_eq.mp e))
 ·rw[XE e];have e:i-1≠0:=fun z=>e (beq_iff_eq.mpr z)
  split
  ·exact wpS_pure ⟨.refl _, .inr ⟨rfl,m2,by show 0<i-1;lia,hj,by show m+(i-1)+j≤_;lia⟩⟩
  ·exact wpS_pure ⟨.refl _,rfl,m2,by show 0<i-1;lia,hj,by show m+(i-1)+j≤_;lia⟩
theorem Jq{st:SortSt}{o:Array Keyed}{i j mg k bc m:Nat}(hk:kindOf st=κ)(ml:MH lt a.toList b.toList o.toList.reverse i j)(hi:0<i)(hj:1<j)(hm:m+i+j≤a.size+b.size+1):wpS (model prog w) A E s (Qe a b o i j mg k bc) (Jp lt a b m st) st:=by
 unfold Qe;have Qi:i≤a.size:=by have:=ml.hi;simpa using this
 have Qj:j≤b.size:=by have:=ml.hj;simpa using this
 have ex:a[i-1]?=some a[i-1]:=XX;have f':a.toList[i-1]?=some a[i-1]:=by rw[Array.getElem?_toList];exact ex
 have hx:a[i-1]∈a.toList:=XF f';refine wpS_bind (eI ex ?_);generalize a[i-1]=x at ex f' hx;have gb:∀t,t<j→b[0+t]?=some (b.getD t (.none, .none)):=fun t ht=>by simp[show t<b.size by lia]
 have qC:∀t,t<j→b.toList[t]?=some (b.getD t (.none, .none)):=fun t ht=>by rw[Array.getElem?_toList];simpa using gb t ht
 refine wpS_bind (pM C (fun t=>b.getD t (.none, .none)) hk (M.ia _ hx) (fun t ht=>⟨gb t ht,M.ib _ (XF (qC t ht))⟩) (fun t u h1 h2=>M.sb.at h1 (qC t (by lia)) (qC u h2)) (by lia) fun t hl h1 h2=>?_);dsimp only;have X0:∀y∈(b.toList.take j).drop t,∀z∈a.toList.take i,lt z y=true:=fun y hy z hz=>by
  obtain⟨u,h3,h4,h5⟩:=Yz.mp hy;have hb:=h2 u h3 h4;rw[qC u h4]at h5;have h5:=XM h5;simp only[ky,if_true]at hb;rw[h5]at hb;have Qk:=List.mem_of_mem_take (List.mem_of_mem_drop hy);have hb:=C.no (M.ib _ Qk) (M.ia _ hx) (fun z=>M.ne _ hx _ Qk z.symm) hb;exact rf C M.sa M.ia f' hz (M.ib _ Qk) hb
 have low:∀y∈b.toList.take t,lt y x=true:=fun y hy=>by
  obtain⟨u,h3,h4⟩:=vA.mp hy;have hb:=h1 u h3;rw[qC u XR]at h4;have h4:=XM h4;simp only[ky,if_true]at hb;rw[h4]at hb;exact hb
 have m2:MH lt a.toList b.toList (o++(b.extract t j).reverse).toList.reverse i t:=by
  rw[He];exact ml.b M hl X0
 by_cases Jk:j-t>0
 ·rw[XH Jk];by_cases e:(t==1)=true
  ·rw[XH e];refine wpS_pure ⟨.refl _, .inl ⟨_,rfl,?_⟩⟩;rw[Aq];exact m2.fb M (beq_iff_eq.mp e)
  ·rw[XE e];have e:t≠1:=fun z=>e (beq_iff_eq.mpr z)
   by_cases e2:(t==0)=true
   ·rw[XH e2];refine wpS_pure ⟨.refl _, .inl ⟨_,rfl,?_⟩⟩;rw[YI];exact m2.dn M (.inr (beq_iff_eq.mp e2))
   ·rw[XE e2];have e2:t≠0:=fun z=>e2 (beq_iff_eq.mpr z)
    exact DG C M m2 hi XR (by lia) fun y hy=>by rw[f']at hy;cases hy;exact low
 ·rw[XE Jk];have:t=j:=by lia
  subst this;exact DG C M ml hi hj hm fun y hy=>by rw[f']at hy;cases hy;exact low
theorem DH{st:SortSt}{o:Array Keyed}{i j mg k bc m:Nat}(hk:kindOf st=κ)(ml:MH lt a.toList b.toList o.toList.reverse i j)(hi:0<i)(hj:1<j)(hm:m+i+j≤a.size+b.size+2)(h:∀y,b.toList[j-1]?=some y→∀x∈a.toList.take i,lt x y=true):wpS (model prog w) A E s (NY a b o i j mg k bc) (Jp lt a b m st) st:=by
 unfold NY;have Qj:j≤b.size:=by have:=ml.hj;simpa using this
 have ex:b[j-1]?=some b[j-1]:=XX;have f':b.toList[j-1]?=some b[j-1]:=by rw[Array.getElem?_toList];exact ex
 refine wpS_bind (eI ex ?_);have m2:MH lt a.toList b.toList (o.push b[j-1]).toList.reverse i (j-1):=by
  have:=ml.b M (t:=j-1) (by lia) (fun x hx y hy=>by
   rw[ED XR f']at hx;have:x=b[j-1]:=by simpa using hx
   rw[this];exact h _ f' y hy)
  rw[ED XR f']at this;rw[As];exact this
 by_cases e:(j-1==1)=true
 ·rw[XH e];refine wpS_pure ⟨.refl _, .inl ⟨_,rfl,?_⟩⟩;rw[Aq];exact m2.fb M (beq_iff_eq.mp e)
 ·rw[XE e];have e:j-1≠1:=fun z=>e (beq_iff_eq.mpr z)
  exact Jq C M hk m2 hi XR (by lia)
theorem DI{st:SortSt}{o:Array Keyed}{i j mg ac bc m:Nat}(hk:kindOf st=κ)(h:Au lt a b o i j m):wpS (model prog w) A E s (EB a b o i j mg ac bc) (Jp lt a b (m+2) st) st:=by
 obtain⟨ml,hi,hj,hm⟩:=h;have Qi:i≤a.size:=by have:=ml.hi;simpa using this
 have Qj:j≤b.size:=by have:=ml.hj;simpa using this
 unfold EB;refine wpS_bind (q_ fun Y2 eg=>?_);have Hd:kindOf Y2=κ:=eg.1.trans hk;have fin:∀{m:Nat}{p:StateT SortSt Sem (ForInStep T2)},wpS (model prog w) A E s p (Jp lt a b m Y2) Y2→wpS (model prog w) A E s p (Jp lt a b m st) Y2:=fun h=>wpS_mono h fun r aP z=>⟨eg.trans z.1,z.2⟩
 refine fin ?_;have ex:b[j-1]?=some b[j-1]:=XX;have f':b.toList[j-1]?=some b[j-1]:=by rw[Array.getElem?_toList];exact ex
 have hx:b[j-1]∈b.toList:=XF f';refine wpS_bind (eI ex ?_);generalize b[j-1]=y at ex f' hx;have gb:∀t,t<i→a[0+t]?=some (a.getD t (.none, .none)):=fun t ht=>by simp[show t<a.size by lia]
 have qC:∀t,t<i→a.toList[t]?=some (a.getD t (.none, .none)):=fun t ht=>by rw[Array.getElem?_toList];simpa using gb t ht
 refine wpS_bind (pM C (fun t=>a.getD t (.none, .none)) Hd (M.ib _ hx) (fun t ht=>⟨gb t ht,M.ia _ (XF (qC t ht))⟩) (fun t u h1 h2=>M.sa.at h1 (qC t (by lia)) (qC u h2)) (by lia) fun t hl h1 h2=>?_);dsimp only;have X0:∀x∈(a.toList.take i).drop t,∀z∈b.toList.take j,lt z x=true:=fun x sY z hz=>by
  obtain⟨u,h3,h4,h5⟩:=Yz.mp sY;have hb:=h2 u h3 h4;rw[qC u h4]at h5;have h5:=XM h5;simp only[ky,Bool.false_eq_true,if_false,Bool.not_eq_false']at hb;rw[h5]at hb;exact rf C M.sb M.ib f' hz (M.ia _ (List.mem_of_mem_take (List.mem_of_mem_drop sY))) hb
 have low:∀x∈a.toList.take t,lt x y=true:=fun x sY=>by
  obtain⟨u,h3,h4⟩:=vA.mp sY;have hb:=h1 u h3;rw[qC u XR]at h4;have h4:=XM h4;have GU:=List.mem_of_mem_take sY;simp only[ky,Bool.false_eq_true,if_false,Bool.not_eq_true']at hb;rw[h4]at hb;exact C.no (M.ib _ hx) (M.ia _ GU) (fun z=>M.ne _ GU _ hx z.symm) hb
 have m2:MH lt a.toList b.toList (o++(a.extract t i).reverse).toList.reverse t j:=by
  rw[He];exact ml.a M hl X0
 by_cases Bt:i-t>0
 ·rw[XH Bt];by_cases e:(t==0)=true
  ·rw[XH e];refine wpS_pure ⟨.refl _, .inl ⟨_,rfl,?_⟩⟩;rw[YI];exact m2.dn M (.inl (beq_iff_eq.mp e))
  ·rw[XE e];have e:t≠0:=fun z=>e (beq_iff_eq.mpr z)
   exact DH C M Hd m2 XR hj XR fun z hz=>by rw[f']at hz;cases hz;exact low
 ·rw[XE Bt];have:t=i:=by lia
  subst this;exact DH C M Hd ml hi hj XR fun z hz=>by rw[f']at hz;cases hz;exact low
theorem Jr{st:SortSt}{c:T2}{m:Nat}(hk:kindOf st=κ)(h:Au lt a b c.2.2.2.1 c.2.1 c.2.2.1 m):wpS (model prog w) A E s (Qf a b c) (Jp lt a b (m+2) st) st:=by
 unfold Qf;split
 ·exact DI C M hk h
 ·exact DI C M hk h
theorem Js{st:SortSt}{c:T1}{mg m:Nat}(hk:kindOf st=κ)(h:Au lt a b c.2.2.2.1 c.2.1 c.2.2.1 m):wpS (model prog w) A E s (Qd a b mg c) (fun r aP=>aP=st∧match r with
  | .done c=>(∃x,c.1=some x∧MG lt a.toList b.toList x.toList)∨(c.1=none∧Au lt a b c.2.2.2.1 c.2.1 c.2.2.1 (m+1))
  | .yield c=>c.1=none∧Au lt a b c.2.2.2.1 c.2.1 c.2.2.1 (m+1)) st:=by
 obtain⟨r,i,j,o,ac,bc⟩:=c;obtain⟨ml,hi,hj,hm⟩:=h;dsimp only at ml hi hj hm;have Qi:i≤a.size:=by have:=ml.hi;simpa using this
 have Qj:j≤b.size:=by have:=ml.hj;simpa using this
 unfold Qd;dsimp only;have ex:a[i-1]?=some a[i-1]:=XX;have f':a.toList[i-1]?=some a[i-1]:=by rw[Array.getElem?_toList];exact ex
 have ey:b[j-1]?=some b[j-1]:=XX;have X1:b.toList[j-1]?=some b[j-1]:=by rw[Array.getElem?_toList];exact ey
 have hx:a[i-1]∈a.toList:=XF f';have hy:b[j-1]∈b.toList:=XF X1;refine wpS_bind (eI ey (wpS_bind (eI ex ?_)));generalize a[i-1]=x at ex f' hx;generalize b[j-1]=y at ey X1 hy;refine wpS_bind (C.ask hk (M.ib _ hy) (M.ia _ hx) ?_);dsimp only;cases e:lt y x with
 |true=>
  rw[if_pos rfl];refine wpS_bind (eI ex ?_);have m2:MH lt a.toList b.toList (o.push x).toList.reverse (i-1) j:=by
   have:=ml.a M (t:=i-1) (by lia) (fun x' sY z hz=>by
    rw[ED hi f']at sY;have:x'=x:=by simpa using sY
    rw[this];exact rf C M.sb M.ib X1 hz (M.ia _ hx) e)
   rw[ED hi f']at this;rw[As];exact this
  by_cases e2:(i-1==0)=true
  ·rw[XH e2];refine wpS_pure ⟨rfl, .inl ⟨_,rfl,?_⟩⟩;rw[YI];exact m2.dn M (.inl (beq_iff_eq.mp e2))
  ·rw[XE e2];have e2:i-1≠0:=fun z=>e2 (beq_iff_eq.mpr z)
   split
   ·exact wpS_pure ⟨rfl, .inr ⟨rfl,m2,by show 0<i-1;lia,hj,by show m+1+(i-1)+j≤_;lia⟩⟩
   ·exact wpS_pure ⟨rfl,rfl,m2,by show 0<i-1;lia,hj,by show m+1+(i-1)+j≤_;lia⟩
 |false=>
  rw[if_neg XN];refine wpS_bind (eI ey ?_);have e:=C.no (M.ib _ hy) (M.ia _ hx) (fun z=>M.ne _ hx _ hy z.symm) e;have m2:MH lt a.toList b.toList (o.push y).toList.reverse i (j-1):=by
   have:=ml.b M (t:=j-1) (by lia) (fun y' Mr z hz=>by
    rw[ED XR X1]at Mr;have:y'=y:=by simpa using Mr
    rw[this];exact rf C M.sa M.ia f' hz (M.ib _ hy) e)
   rw[ED XR X1]at this;rw[As];exact this
  by_cases e2:(j-1==1)=true
  ·rw[XH e2];refine wpS_pure ⟨rfl, .inl ⟨_,rfl,?_⟩⟩;rw[Aq];exact m2.fb M (beq_iff_eq.mp e2)
  ·rw[XE e2];have e2:j-1≠1:=fun z=>e2 (beq_iff_eq.mpr z)
   split
   ·exact wpS_pure ⟨rfl, .inr ⟨rfl,m2,hi,by show 1<j-1;lia,by show m+1+i+(j-1)≤_;lia⟩⟩
   ·exact wpS_pure ⟨rfl,rfl,m2,hi,by show 1<j-1;lia,by show m+1+i+(j-1)≤_;lia⟩
theorem Jt{st:SortSt}{c:T3}{m:Nat}(hk:kindOf st=κ)(h:Au lt a b c.2.2.2.1 c.2.1 c.2.2.1 m):wpS (model prog w) A E s (Qg a b c) (fun r aP=>Eg st aP∧match r with
  | .done c=>∃x,c.1=some x∧MG lt a.toList b.toList x.toList
  | .yield c=>c.1=none∧Au lt a b c.2.2.2.1 c.2.1 c.2.2.1 (m+1)) st:=by
 unfold Qg;refine wpS_bind (wpS_mono (wpS_forRange (I:=fun x c aP=>aP=st∧c.1=none∧Au lt a b c.2.2.2.1 c.2.1 c.2.2.1 (m+x)) (Q:=fun c aP=>aP=st∧((∃x,c.1=some x∧MG lt a.toList b.toList x.toList)∨(c.1=none∧Au lt a b c.2.2.2.1 c.2.1 c.2.2.1 (m+1)))) ?_ ?_ ⟨rfl,rfl,h⟩) ?_)
 ·rintro x c aP _ hx ⟨rfl,hc,hI⟩;refine wpS_mono (Js C M hk hI) fun r aP hr=>?_
  obtain⟨rfl,hr⟩:=hr;cases r with
  |done c=>exact⟨rfl,hr.imp id fun z=>⟨z.1,z.2.1,z.2.2.1,z.2.2.2.1,by have:=z.2.2.2.2;lia⟩⟩
  |yield c=>exact⟨rfl,hr.1,hr.2⟩
 ·rintro c aP ⟨rfl,hc,h1,h2,h3,h4⟩
  lia
 rintro t aP ⟨rfl,ht⟩;rcases ht with⟨x,e,hg⟩|⟨e,hI⟩
 ·rw[e];exact wpS_pure ⟨.refl _,x,rfl,hg⟩
 rw[e];dsimp only;refine wpS_bind (wpS_lift (wpAny_rule ⟨rfl,?_⟩));refine wpS_bind (wpS_mono (wpS_forRange (I:=fun x c dF=>Eg aP dF∧c.1=none∧Au lt a b c.2.2.2.1 c.2.1 c.2.2.1 (m+1+x)) (Q:=fun c dF=>Eg aP dF∧((∃x,c.1=some x∧MG lt a.toList b.toList x.toList)∨(c.1=none∧Au lt a b c.2.2.2.1 c.2.1 c.2.2.1 (m+1)))) ?_ ?_ ⟨.refl _,rfl,hI⟩) ?_)
 ·rintro x c dF _ hx ⟨eg,hc,hI⟩;refine wpS_mono (Jr C M (eg.1.trans hk) hI) fun r Co hr=>?_
  obtain⟨DF,hr⟩:=hr;cases r with
  |done c=>exact⟨eg.trans DF,hr.imp id fun z=>⟨z.1,z.2.1,z.2.2.1,z.2.2.2.1,by have:=z.2.2.2.2;lia⟩⟩
  |yield c=>exact⟨eg.trans DF,hr.1,hr.2.1,hr.2.2.1,hr.2.2.2.1,by have:=hr.2.2.2.2;lia⟩
 ·rintro c dF ⟨eg,hc,h1,h2,h3,h4⟩
  lia
 rintro u dF ⟨eg,hu⟩;rcases hu with⟨x,e,hg⟩|⟨e,hI⟩
 ·rw[e];exact wpS_pure ⟨eg,x,rfl,hg⟩
 rw[e];dsimp only;exact wpS_bind (q_ fun Co Qh=>wpS_pure ⟨eg.trans Qh,rfl,hI⟩)
theorem Ju{st:SortSt}{Q:Array Keyed→SortSt→Prop}(hk:kindOf st=κ)(ha:0<a.size)(hb:0<b.size)(q:∀r aP,Eg st aP→MG lt a.toList b.toList r.toList→Q r aP):wpS (model prog w) A E s (Ji a b) Q st:=by
 rw[FK];refine wpS_bind (wpS_lift (wpAny_rule ⟨rfl,?_⟩));have ex:a[a.size-1]?=some a[a.size-1]:=XX;have f':a.toList[a.size-1]?=some a[a.size-1]:=by rw[Array.getElem?_toList];exact ex
 refine wpS_bind (eI ex ?_);have m0:MH lt a.toList b.toList [] a.size b.size:=⟨XX,XX, .nil,fun x hx=>(by cases hx),by rw[List.take_of_length_le XN,List.take_of_length_le XN];simp⟩
 have m1:MH lt a.toList b.toList (#[a[a.size-1]]:Array Keyed).toList.reverse (a.size-1) b.size:=by
  have:=m0.a M (t:=a.size-1) (by lia) (fun x hx y hy=>by
   rw[ED ha f']at hx;have:x=a[a.size-1]:=by simpa using hx
   rw[this];exact M.lst y (List.mem_of_mem_take hy) _ (by simpa using f'))
  rw[ED ha f']at this;simpa using this
 by_cases e:(a.size-1==0)=true
 ·rw[XH e];refine wpS_pure (q _ _ (.refl _) ?_);rw[YI];exact m1.dn M (.inl (beq_iff_eq.mp e))
 rw[XE e];have e:a.size-1≠0:=fun z=>e (beq_iff_eq.mpr z)
 by_cases e2:(b.size==1)=true
 ·rw[XH e2];refine wpS_pure (q _ _ (.refl _) ?_);rw[Aq];exact m1.fb M (beq_iff_eq.mp e2)
 rw[XE e2];have e2:b.size≠1:=fun z=>e2 (beq_iff_eq.mpr z)
 refine wpS_bind (wpS_get ?_);refine wpS_bind (wpS_mono (wpS_forRange (I:=fun x c dF=>Eg st dF∧c.1=none∧Au lt a b c.2.2.2.1 c.2.1 c.2.2.1 x) (Q:=fun c dF=>Eg st dF∧∃x,c.1=some x∧MG lt a.toList b.toList x.toList) ?_ ?_ ⟨.refl _,rfl,m1,by show 0<a.size-1;lia,by show 1<b.size;lia,by show 0+(a.size-1)+b.size≤_;lia⟩) ?_)
 ·rintro x c dF _ hx ⟨eg,hc,hI⟩;refine wpS_mono (Jt C M (eg.1.trans hk) hI) fun r Co hr=>?_
  obtain⟨DF,hr⟩:=hr;cases r with
  |done c=>exact⟨eg.trans DF,hr⟩
  |yield c=>exact⟨eg.trans DF,hr⟩
 ·rintro c dF ⟨eg,hc,h1,h2,h3,h4⟩
  lia
 ·rintro c dF ⟨eg,x,e,hg⟩;rw[e];exact wpS_pure (q x dF eg hg)
end
def NZ(lo i n:Nat):StateT SortSt Sem AscSt:=forIn [i:n] ((none,i):AscSt) fun _ c=>do
 let z←ltAt' (lo+c.2) (lo+c.2-1)
 match z with
 |some v=>if v=true then pure (.done (none,c.2))else pure (.yield (none,c.2+1))
 | _=>pure (.done (some none,c.2))
def N0(lo i n:Nat):StateT SortSt Sem (Option Nat):=do
 reverseSlice' lo (lo+i)
 let t←NZ lo i n
 match t.1 with
 |some r=>pure r
 |none=>pure (some t.2)
def Ql(lo i n:Nat):StateT SortSt Sem DescSt:=forIn [i:n] ((none,i,0):DescSt) fun _ c=>do
 let z←ltAt' (lo+c.2.1) (lo+c.2.1-1)
 match z with
 |some v=>
  if v=true then
   if c.2.2>0 then do
    reverseSlice' (lo+c.2.1-(c.2.2+1)) (lo+c.2.1)
    pure (.yield (none,c.2.1+1,0))
   else pure (.yield (none,c.2.1+1,0))
  else do
   let z←ltAt' (lo+c.2.1-1) (lo+c.2.1)
   match z with
   |some v=>if v=true then pure (.done (none,c.2.1,c.2.2))else pure (.yield (none,c.2.1+1,c.2.2+1))
   | _=>pure (.done (some none,c.2.1,c.2.2))
 | _=>pure (.done (some none,c.2.1,c.2.2))
def Qm(lo i n:Nat):StateT SortSt Sem (Option Nat):=do
 liftM (rule "list.sort.descending-run")
 let t←Ql lo (i+1) n
 match t.1 with
 |some r=>pure r
 |none=>
  if t.2.2>0 then do
   reverseSlice' (lo+t.2.1-(t.2.2+1)) (lo+t.2.1)
   N0 lo t.2.1 n
  else N0 lo t.2.1 n
theorem Jv(lo n:Nat):countRun' lo n=(do
 let t←NZ lo 1 n
 match t.1 with
 |some r=>pure r
 |none=>
  if (t.2==n)=true then pure (some t.2)
  else if t.2>1 then do
   let z←ltAt' lo (lo+t.2-1)
   match z with
   |some v=>if v=true then pure (some t.2)else do
     reverseSlice' lo (lo+t.2)
     Qm lo t.2 n
   | _=>pure none
  else Qm lo t.2 n):=by kernel_rfl
def R0(lo k:Nat):StateT SortSt Sem (Option Bool×Nat×Nat):=forIn [0:k] ((none,0,k):Option Bool×Nat×Nat) fun _ c=>
 if c.2.1≥c.2.2 then pure (.done (none,c.2.1,c.2.2))
 else do
  let z←ltAt' (lo+k) (lo+(c.2.1+c.2.2)/2)
  match z with
  |some v=>if v=true then pure (.yield (none,c.2.1,(c.2.1+c.2.2)/2))else pure (.yield (none,(c.2.1+c.2.2)/2+1,c.2.2))
  | _=>pure (.done (some false,c.2.1,c.2.2))
theorem Jw(lo n ok:Nat):binarySort' lo n ok=(do
 let t←forIn [max ok 1:n] ((none,()):Option Bool×Unit) fun k _=>do
  let t←R0 lo k
  match t.1 with
  |some r=>pure (.done (some r,()))
  |none=>do
   moveDown' (lo+k) (lo+t.2.1)
   pure (.yield (none,()))
 match t.1 with
 |some r=>pure r
 |none=>pure true):=by kernel_rfl
def B9(j:Nat)(m:Array Keyed)(st:SortSt):SortSt:=setArr st (m.toList.zipIdx.foldl (fun c q=>c.setIfInBounds (j+q.2) q.1) (arrOf st))
theorem Jx(i:Nat):mergeAt' i=(do
 let g←get
 let (some (p,m,v),some (q,n,_)):=((pendingOf g)[i]?,(pendingOf g)[i+1]?)|unsupported "internal:list.sort.pending"
 set (setPending g (((pendingOf g).setIfInBounds i (p,m+n,v)).eraseIdxIfInBounds (i+1)))
 let some k←Y5 false (←elem' (arrOf g) q) (arrOf g) p m 0|return false
 if m-k==0 then return true
 let some n←Y5 true (←elem' (arrOf g) (p+k+(m-k)-1)) (arrOf g) q n (n-1)|return false
 if n==0 then return true
 let r←if m-k≤n then Jh ((arrOf g).extract (p+k) q) ((arrOf g).extract q (q+n))else Ji ((arrOf g).extract (p+k) q) ((arrOf g).extract q (q+n))
 modify fun st=>B9 (p+k) r st
 return (failedOf (←get)).isNone):=by kernel_rfl
def Qn(n w:Nat):StateT SortSt Sem (Option Unit×Unit):=forIn [0:n] ((none,()):Option Unit×Unit) fun _ _=>do
 let g←get
 match (if (pendingOf g).size>1 then(pendingOf g)[(pendingOf g).size-2]? else none)with
 |some (_,_,v)=>
  if v≤w then pure (.done (none,()))
  else do
   let z←mergeAt' ((pendingOf g).size-2)
   if (!z)=true then pure (.done (some (),()))else pure (.yield (none,()))
 | _=>pure (.done (none,()))
def R1(w:Nat)(st:SortSt):SortSt:=setPending st ((pendingOf st).modify ((pendingOf st).size-1) fun(p,l,_)=>(p,l,w))
def N1(lo n:Nat)(st:SortSt):SortSt:=setPending st ((pendingOf st).push (lo,n,0))
def N2(N lo n:Nat):StateT SortSt Sem (ForInStep (Option Unit×Nat)):=do
 let g←get
 match (pendingOf g).back? with
 |some (p,l,_)=>do
  let t←Qn N (power' N (2*p+l) (2*p+l+l+n) N)
  match t.1 with
  |some r=>pure (.done (some r,lo))
  |none=>do
   modify (R1 (power' N (2*p+l) (2*p+l+l+n) N))
   modify (N1 lo n)
   pure (.yield (none,lo+n))
 | _=>do
  modify (N1 lo n)
  pure (.yield (none,lo+n))
def Qo(N:Nat):StateT SortSt Sem (Option Unit×Unit):=forIn [0:N] ((none,()):Option Unit×Unit) fun _ _=>do
 let g←get
 if (pendingOf g).size≤1 then pure (.done (none,()))
 else do
  let z←mergeAt' (if (if (pendingOf g).size-2>0 then((pendingOf g)[(pendingOf g).size-2-1]?).map (·.2.1)else none).any (·<((pendingOf g)[(pendingOf g).size-2+1]?.elim 0 (·.2.1)))then(pendingOf g).size-2-1 else(pendingOf g).size-2)
  if (!z)=true then pure (.done (some (),()))else pure (.yield (none,()))
theorem FO:sortRuns'=(do
 let g←get
 let t←forIn [0:(arrOf g).size] ((none,0):Option Unit×Nat) fun _ c=>
  if c.2≥(arrOf g).size then pure (.done (none,c.2))
  else do
   let z←countRun' c.2 ((arrOf g).size-c.2)
   match z with
   |some n=>
    if n<minRun' (arrOf g).size (arrOf g).size 0 then do
     liftM (rule "list.sort.binary-insertion")
     let z←binarySort' c.2 (min ((arrOf g).size-c.2) (minRun' (arrOf g).size (arrOf g).size 0)) n
     if (!z)=true then pure (.done (some (),c.2))else N2 (arrOf g).size c.2 (min ((arrOf g).size-c.2) (minRun' (arrOf g).size (arrOf g).size 0))
    else N2 (arrOf g).size c.2 n
   | _=>pure (.done (some (),c.2))
 match t.1 with
 |some r=>pure r
 |none=>do
  let u←Qo (arrOf g).size
  match u.1 with
  |some r=>pure r
  |none=>pure ()):=by kernel_rfl
abbrev gg(xs:Array Keyed)(k:Nat):Keyed:=xs.getD k (.none, .none)
theorem nP(xs:Array Keyed)(k:Nat):gg xs k=(xs[k]?).getD (.none, .none):=by unfold gg;rw[Array.getD_eq_getD_getElem?]
theorem ko{xs:Array Keyed}{k:Nat}(h:k<xs.size):xs[k]?=some (gg xs k):=by simp[h]
def Sw(lt:Keyed→Keyed→Bool)(xs:Array Keyed)(a b:Nat):Prop:=∀i j,a≤i→i<j→j<b→lt (gg xs i) (gg xs j)=true
def Dw(lt:Keyed→Keyed→Bool)(xs:Array Keyed)(a b:Nat):Prop:=∀i j,a≤i→i<j→j<b→lt (gg xs j) (gg xs i)=true
theorem Sw.congr{lt:Keyed→Keyed→Bool}{xs ys:Array Keyed}{a b:Nat}(h:Sw lt xs a b)(e:∀t,a≤t→t<b→gg ys t=gg xs t):Sw lt ys a b:=fun i j h1 h2 h3=>by rw[e i h1 XR,e j XR h3];exact h i j h1 h2 h3
structure SB(X:List Keyed)(κ:SortKind)(st:SortSt):Prop where
 pm:(arrOf st).toList.Perm X
 kd:kindOf st=κ
 fl:failedOf st=none
theorem FP{σ:Type}{M:Model}{A:Around}{E:Value→Shared→Prop}{s:Shared}{x:σ}{Q:PUnit→σ→Prop}{st:σ}(h:Q ⟨⟩ x):wpS M A E s (set x:StateT σ Sem PUnit) Q st:=by
 unfold wpS;rw[StateT.run_set];exact wpAny_pure ⟨rfl,h⟩
section
variable{prog:Program}{w:World}{A:Around}{E:Value→Shared→Prop}{s:Shared}{X:List Keyed}{κ:SortKind}{lt:Keyed→Keyed→Bool}
theorem SB.size{st:SortSt}(b:SB X κ st):(arrOf st).size=X.length:=by have:=b.pm.length_eq;simpa using this
theorem SB.mem{st:SortSt}(b:SB X κ st){k:Nat}(h:k<X.length):gg (arrOf st) k∈X:=by
 have:=ko (xs:=arrOf st) (k:=k) (by rw[b.size];exact h);rw[←Array.getElem?_toList]at this;exact b.pm.mem_iff.mp (XF this)
theorem SB.inj{st:SortSt}(C:DB prog w A s X κ lt)(b:SB X κ st){i j:Nat}(hi:i<X.length)(hj:j<X.length)(h:i≠j):gg (arrOf st) i≠gg (arrOf st) j:=fun e=>by
 have h1:=ko (xs:=arrOf st) (k:=i) (by rw[b.size];exact hi);have h2:=ko (xs:=arrOf st) (k:=j) (by rw[b.size];exact hj);rw[←Array.getElem?_toList]at h1 h2;have nd:(arrOf st).toList.Nodup:=b.pm.nodup_iff.mpr C.nd;exact h ((List.getElem?_inj (Xv h1).1 nd).mp (by rw[h1,h2,e]))
theorem SB.set{st:SortSt}{xs:Array Keyed}(b:SB X κ st)(h:xs.Perm (arrOf st)):SB X κ (setArr st xs):=⟨(Array.perm_iff_toList_perm.mp h).trans b.pm,b.kd,b.fl⟩
variable(C:DB prog w A s X κ lt)
include C
theorem YG{st:SortSt}{i j:Nat}{Q:Option Bool→SortSt→Prop}(b:SB X κ st)(hi:i<X.length)(hj:j<X.length)(h:Q (some (lt (gg (arrOf st) i) (gg (arrOf st) j))) st):wpS (model prog w) A E s (ltAt' i j) Q st:=by
 rw[ltAt'_eq];refine wpS_bind (wpS_get ?_);show wpS _ _ _ _ (do let x←elem' (arrOf st) i;let y←elem' (arrOf st) j;lt' x y) Q st;exact wpS_bind (eI (ko (by rw[b.size];exact hi)) (wpS_bind (eI (ko (by rw[b.size];exact hj)) (C.ask b.kd (b.mem hi) (b.mem hj) h))))
theorem SB.no{st:SortSt}(b:SB X κ st){i j:Nat}(hi:i<X.length)(hj:j<X.length)(h:i≠j)(e:lt (gg (arrOf st) i) (gg (arrOf st) j)=false):lt (gg (arrOf st) j) (gg (arrOf st) i)=true:=C.no (b.mem hi) (b.mem hj) (b.inj C hi hj h) e
theorem Sw.next{st:SortSt}(b:SB X κ st){lo n:Nat}(h1:1≤n)(hn:lo+n<X.length)(h:Sw lt (arrOf st) lo (lo+n))(e:lt (gg (arrOf st) (lo+n)) (gg (arrOf st) (lo+n-1))=false):Sw lt (arrOf st) lo (lo+(n+1)):=fun i j hi sX hj=>by
 have hl:=b.no C (i:=lo+n) (j:=lo+n-1) hn XR (by lia) e;by_cases ej:j=lo+n
 ·subst ej;by_cases ei:i=lo+n-1
  ·subst ei;exact hl
  ·exact C.tr _ (b.mem XR) _ (b.mem XR) _ (b.mem hn) (h i (lo+n-1) hi XR (by lia)) hl
 ·exact h i j hi sX XR
theorem DJ{st:SortSt}{lo i n:Nat}{Q:AscSt→SortSt→Prop}(b:SB X κ st)(hn:lo+n≤X.length)(h1:1≤i)(m3:i≤n)(hs:Sw lt (arrOf st) lo (lo+i))(q:∀m,i≤m→m≤n→Sw lt (arrOf st) lo (lo+m)→(m=n∨lt (gg (arrOf st) (lo+m)) (gg (arrOf st) (lo+m-1))=true)→Q (none,m) st):wpS (model prog w) A E s (NZ lo i n) Q st:=by
 unfold NZ;refine wpS_forRange (I:=fun x c aP=>aP=st∧c=(none,x)∧Sw lt (arrOf st) lo (lo+x)) ?_ ?_ ⟨rfl,rfl,hs⟩
 ·rintro x c aP kP hx ⟨rfl,rfl,l7⟩;refine wpS_bind (YG C b (by show lo+x<_;lia) (by show lo+x-1<_;lia) ?_);dsimp only;cases e:lt (gg (arrOf aP) (lo+x)) (gg (arrOf aP) (lo+x-1))with
  |true=>
   rw[if_pos rfl];exact wpS_pure (q x kP XR l7 (.inr e))
  |false=>
   rw[if_neg XN];exact wpS_pure ⟨rfl,rfl,Sw.next C b (by lia) (by lia) l7 e⟩
 ·rintro c aP ⟨rfl,rfl,l7⟩;rw[show max i n=n by lia]at l7⊢;exact q n m3 (Nat.le_refl _) l7 (.inl rfl)
omit C in
theorem YR{xs:Array Keyed}{i j:Nat}(hj:j≤xs.size)(k:Nat):gg (mirror xs i j ((j-i)/2)) k=if i≤k∧k<j then gg xs (i+j-1-k)else gg xs k:=by
 rw[nP,getElem?_mirror_all hj];split<;>rw[nP]
theorem Jy{st:SortSt}{lo i n:Nat}{Q:Option Nat→SortSt→Prop}(b:SB X κ st)(hn:lo+n≤X.length)(h1:1≤i)(m3:i≤n)(hs:Dw lt (arrOf st) lo (lo+i))(q:∀m aP,SB X κ aP→pendingOf aP=pendingOf st→(∀t,t<lo→gg (arrOf aP) t=gg (arrOf st) t)→1≤m→m≤n→Sw lt (arrOf aP) lo (lo+m)→Q (some m) aP):wpS (model prog w) A E s (N0 lo i n) Q st:=by
 unfold N0;refine wpS_bind ?_;rw[reverseSlice'_eq];refine wpS_modify ?_;have hsz:lo+i≤(arrOf st).size:=by rw[b.size];lia
 have b':SB X κ (setArr st (mirror (arrOf st) lo (lo+i) ((lo+i-lo)/2))):=b.set (mirror_perm _ _ _ _);refine wpS_bind (DJ C b' hn h1 m3 (fun x y hx Y1 hy=>?_) fun m a1 a2 a3 _=>wpS_pure (q m _ b' rfl (fun t ht=>?_) (by lia) a2 a3))
 ·show lt (gg (mirror (arrOf st) lo (lo+i) ((lo+i-lo)/2)) x) (gg (mirror (arrOf st) lo (lo+i) ((lo+i-lo)/2)) y)=true;rw[YR hsz,YR hsz,XH XR,XH XR];exact hs _ _ (by lia) (by lia) (by lia)
 ·show gg (mirror (arrOf st) lo (lo+i) ((lo+i-lo)/2)) t=_;rw[YR hsz,XE XR]
theorem Jz{st:SortSt}{lo i n:Nat}{Q:DescSt→SortSt→Prop}(b:SB X κ st)(hn:lo+n≤X.length)(h1:1≤i)(m3:i≤n)(hs:Dw lt (arrOf st) lo (lo+i))(q:∀m,i≤m→m≤n→Dw lt (arrOf st) lo (lo+m)→Q (none,m,0) st):wpS (model prog w) A E s (Ql lo i n) Q st:=by
 unfold Ql;refine wpS_forRange (I:=fun x c aP=>aP=st∧c=(none,x,0)∧Dw lt (arrOf st) lo (lo+x)) ?_ ?_ ⟨rfl,rfl,hs⟩
 ·rintro x c aP kP hx ⟨rfl,rfl,l7⟩;refine wpS_bind (YG C b (by show lo+x<_;lia) (by show lo+x-1<_;lia) ?_);dsimp only;cases e:lt (gg (arrOf aP) (lo+x)) (gg (arrOf aP) (lo+x-1))with
  |true=>
   rw[if_pos rfl,XE XR];refine wpS_pure ⟨rfl,rfl,fun y z hy U0 hz=>?_⟩;by_cases ez:z=lo+x
   ·subst ez;by_cases ey:y=lo+x-1
    ·subst ey;exact e
    ·exact C.tr _ (b.mem XR) _ (b.mem XR) _ (b.mem XR) e (l7 y (lo+x-1) hy XR (by lia))
   ·exact l7 y z hy U0 XR
  |false=>
   rw[if_neg XN];have e':=b.no C (i:=lo+x) (j:=lo+x-1) (by lia) (by lia) (by lia) e;refine wpS_bind (YG C b (by lia) (by lia) ?_);rw[e'];dsimp only;rw[if_pos rfl];exact wpS_pure (q x kP XR l7)
 ·rintro c aP ⟨rfl,rfl,l7⟩;rw[show max i n=n by lia]at l7⊢;exact q n m3 (Nat.le_refl _) l7
theorem Ms{st:SortSt}{lo n:Nat}{Q:Option Nat→SortSt→Prop}(b:SB X κ st)(hn:lo+n≤X.length)(h1:1≤n)(q:∀m aP,SB X κ aP→pendingOf aP=pendingOf st→(∀t,t<lo→gg (arrOf aP) t=gg (arrOf st) t)→1≤m→m≤n→Sw lt (arrOf aP) lo (lo+m)→Q (some m) aP):wpS (model prog w) A E s (countRun' lo n) Q st:=by
 rw[Jv];refine wpS_bind (DJ C b hn (Nat.le_refl _) h1 (fun i j a b c=>by lia) fun m a1 a2 a3 a4=>?_);dsimp only;by_cases e:(m==n)=true
 ·rw[XH e];exact wpS_pure (q m st b rfl (fun _ _=>rfl) a1 a2 a3)
 ·rw[XE e];have e:m≠n:=fun z=>e (beq_iff_eq.mpr z)
  by_cases e2:m>1
  ·rw[XH e2];refine wpS_bind (YG C b (by lia) (by lia) ?_);rw[a3 lo (lo+m-1) (Nat.le_refl _) (by lia) (by lia)];dsimp only;rw[if_pos rfl];exact wpS_pure (q m st b rfl (fun _ _=>rfl) a1 a2 a3)
  ·rw[XE e2];have:m=1:=by lia
   subst this;unfold Qm;refine wpS_bind (wpS_lift (wpAny_rule ⟨rfl,?_⟩));refine wpS_bind (Jz C b hn XR (by lia) (fun i j hi sX hj=>?_) fun m c1 c2 c3=>?_)
   ·have hi:i=lo:=by lia
    have hj:j=lo+1:=by lia
    subst hi hj;exact a4.resolve_left e
   ·dsimp only;rw[XE XR];exact Jy C b hn XR c2 c3 q
omit C in
theorem JA{xs:Array Keyed}{src d:Nat}(hs:src<xs.size)(hd:d≤src)(k:Nat):gg (bubble xs src d) k=if k=src-d then gg xs src else if src-d<k∧k≤src then gg xs (k-1)else gg xs k:=by
 rw[nP,getElem?_bubble hs d hd];by_cases h1:k=src-d
 ·rw[XH h1,XH h1,nP]
 ·rw[XE h1,XE h1];by_cases h2:src-d<k∧k≤src
  ·rw[XH h2,XH h2,nP]
  ·rw[XE h2,XE h2,nP]
theorem Mt{st:SortSt}{lo n ok:Nat}{Q:Bool→SortSt→Prop}(b:SB X κ st)(hn:lo+n≤X.length)(h1:1≤ok)(bR:ok≤n)(hs:Sw lt (arrOf st) lo (lo+ok))(q:∀aP,SB X κ aP→pendingOf aP=pendingOf st→(∀t,t<lo→gg (arrOf aP) t=gg (arrOf st) t)→Sw lt (arrOf aP) lo (lo+n)→Q true aP):wpS (model prog w) A E s (binarySort' lo n ok) Q st:=by
 rw[Jw];refine wpS_bind (wpS_mono (wpS_forRange (I:=fun k c aP=>c=(none,())∧SB X κ aP∧pendingOf aP=pendingOf st∧(∀t,t<lo→gg (arrOf aP) t=gg (arrOf st) t)∧Sw lt (arrOf aP) lo (lo+k)) (Q:=fun c aP=>c=(none,())∧SB X κ aP∧pendingOf aP=pendingOf st∧(∀t,t<lo→gg (arrOf aP) t=gg (arrOf st) t)∧Sw lt (arrOf aP) lo (lo+n)) ?_ ?_ ⟨rfl,b,rfl,fun _ _=>rfl,by rw[show max ok 1=ok by lia];exact hs⟩) ?_)
 ·rintro k c aP Hd hk ⟨rfl,b',hp,hf,l7⟩;unfold R0;refine wpS_bind (wpS_mono (wpS_forRange (I:=fun x c dF=>dF=aP∧∃l r,c=(none,l,r)∧l≤r∧r≤k∧(∀i,i<l→lt (gg (arrOf aP) (lo+i)) (gg (arrOf aP) (lo+k))=true)∧(∀i,r≤i→i<k→lt (gg (arrOf aP) (lo+k)) (gg (arrOf aP) (lo+i))=true)∧r-l+x≤k) (Q:=fun c dF=>dF=aP∧∃l r,c=(none,l,r)∧l≤k∧(∀i,i<l→lt (gg (arrOf aP) (lo+i)) (gg (arrOf aP) (lo+k))=true)∧(∀i,l≤i→i<k→lt (gg (arrOf aP) (lo+k)) (gg (arrOf aP) (lo+i))=true)) ?_ ?_ ⟨rfl,0,k,rfl,by lia,by lia,fun i hi=>by lia,fun i h1 h2=>by lia,by lia⟩) ?_)
  ·rintro x c dF _ hx ⟨rfl,l,r,rfl,a1,a2,a3,a4,a5⟩;dsimp only;by_cases R3:l≥r
   ·rw[XH R3];exact wpS_pure ⟨rfl,l,r,rfl,by lia,a3,fun i h1 h2=>a4 i XR h2⟩
   ·rw[XE R3];refine wpS_bind (YG C b' XR (by lia) ?_);dsimp only;cases e:lt (gg (arrOf dF) (lo+k)) (gg (arrOf dF) (lo+(l+r)/2))with
    |true=>
     rw[if_pos rfl];refine wpS_pure ⟨rfl,l,(l+r)/2,rfl,by lia,by lia,a3,fun i h1 h2=>?_,by lia⟩;by_cases ei:i=(l+r)/2
     ·subst ei;exact e
     ·exact C.tr _ (b'.mem XR) _ (b'.mem XR) _ (b'.mem XR) e (l7 (lo+(l+r)/2) (lo+i) (by lia) (by lia) (by lia))
    |false=>
     rw[if_neg XN];have e':=b'.no C (i:=lo+k) (j:=lo+(l+r)/2) (by lia) (by lia) (by lia) e;refine wpS_pure ⟨rfl,(l+r)/2+1,r,rfl,by lia,a2,fun i h1=>?_,a4,by lia⟩;by_cases ei:i=(l+r)/2
     ·subst ei;exact e'
     ·exact C.tr _ (b'.mem XR) _ (b'.mem XR) _ (b'.mem XR) (l7 (lo+i) (lo+(l+r)/2) (by lia) (by lia) (by lia)) e'
  ·rintro c dF ⟨rfl,l,r,rfl,a1,a2,a3,a4,a5⟩;exact⟨rfl,l,r,rfl,by lia,a3,fun i h1 h2=>a4 i XR h2⟩
  rintro c dF ⟨rfl,l,r,rfl,a1,a2,a3⟩;dsimp only;refine wpS_bind ?_;rw[moveDown'_eq];refine wpS_modify (wpS_pure ?_);have hsz:lo+k<(arrOf dF).size:=by rw[b'.size];lia
  have gb:=fun t=>JA (xs:=arrOf dF) hsz (d:=lo+k-(lo+l)) (by lia) t
  have es:lo+k-(lo+k-(lo+l))=lo+l:=by lia
  rw[es]at gb;refine⟨rfl,b'.set (bubble_perm _ _ _),hp,fun t ht=>?_,fun i j hi sX hj=>?_⟩
  ·show gg (bubble (arrOf dF) (lo+k) (lo+k-(lo+l))) t=_;rw[gb,XE XR,XE XR];exact hf t ht
  ·show lt (gg (bubble (arrOf dF) (lo+k) (lo+k-(lo+l))) i) (gg (bubble (arrOf dF) (lo+k) (lo+k-(lo+l))) j)=true;rw[gb,gb];have U1:∀t,lo≤t→t<lo+l→lt (gg (arrOf dF) t) (gg (arrOf dF) (lo+k))=true:=fun t h1 h2=>by have:=a2 (t-lo) (by lia);rw[show lo+(t-lo)=t by lia]at this;exact this
   have U2:∀t,lo+l≤t→t<lo+k→lt (gg (arrOf dF) (lo+k)) (gg (arrOf dF) t)=true:=fun t h1 h2=>by have:=a3 (t-lo) (by lia) (by lia);rw[show lo+(t-lo)=t by lia]at this;exact this
   by_cases e1:i=lo+l
   ·rw[XH e1,XE XR,XH XR];exact U2 _ (by lia) (by lia)
   ·rw[XE e1];by_cases e2:lo+l<i∧i≤lo+k
    ·rw[XH e2,XE XR,XH XR];exact l7 _ _ (by lia) (by lia) (by lia)
    ·rw[XE e2];by_cases e3:j=lo+l
     ·rw[XH e3];exact U1 _ (by lia) (by lia)
     ·rw[XE e3];by_cases e4:lo+l<j∧j≤lo+k
      ·rw[XH e4];exact l7 _ _ (by lia) (by lia) (by lia)
      ·rw[XE e4];exact l7 _ _ (by lia) (by lia) (by lia)
 ·rintro c aP ⟨rfl,b',hp,hf,l7⟩;rw[show max (max ok 1) n=n by lia]at l7;exact⟨rfl,b',hp,hf,l7⟩
 ·rintro c aP ⟨rfl,b',hp,hf,l7⟩;exact wpS_pure (q aP b' hp hf l7)
end
theorem JB(ys:List Keyed)(j:Nat):∀(k:Nat)(xs:Array Keyed),j+k+ys.length≤xs.size→∀t:Nat,((ys.zipIdx k).foldl (fun c q=>c.setIfInBounds (j+q.2) q.1) xs)[t]?=if j+k≤t∧t<j+k+ys.length then ys[t-(j+k)]? else xs[t]?:=by
 induction ys with
 |nil=>
  intro k xs h t;rw[XE (fun z=>by have z1:=z.1;have z2:=z.2;simp only[List.length_nil]at z2;lia)];rfl
 |cons y ys ih=>
  intro k xs h t;rw[List.zipIdx_cons,List.foldl_cons,ih (k+1) _ (by simp at h⊢;lia) t];simp only[List.length_cons]at h⊢;by_cases h1:j+(k+1)≤t∧t<j+(k+1)+ys.length
  ·rw[XH h1,XH XR,show t-(j+k)=(t-(j+(k+1)))+1 by lia];rfl
  ·rw[XE h1,Array.getElem?_setIfInBounds];by_cases h2:j+k=t
   ·subst h2;rw[if_pos rfl,XH XR,XH XR];simp
   ·rw[XE h2,XE XR]
theorem DK(ys:List Keyed)(j:Nat)(xs:Array Keyed)(h:j+ys.length≤xs.size):(ys.zipIdx.foldl (fun c q=>c.setIfInBounds (j+q.2) q.1) xs).toList=xs.toList.take j++ys++xs.toList.drop (j+ys.length):=by
 apply List.ext_getElem?;intro t;rw[Array.getElem?_toList,JB ys j 0 xs XR t,Nat.add_zero];by_cases h1:t<j
 ·rw[XE XR,List.append_assoc,List.getElem?_append_left (by simp;lia),List.getElem?_take,XH h1,Array.getElem?_toList]
 ·by_cases h2:t<j+ys.length
  ·rw[XH XR,List.append_assoc,List.getElem?_append_right (by simp;lia),List.getElem?_append_left (by simp;lia)]
   congr 1
   simp
   lia
  ·rw[XE XR,List.getElem?_append_right (by simp;lia),List.getElem?_drop,Array.getElem?_toList]
   congr 1
   simp
   lia
section
variable{prog:Program}{w:World}{A:Around}{E:Value→Shared→Prop}{s:Shared}{X:List Keyed}{κ:SortKind}{lt:Keyed→Keyed→Bool}
theorem Sw.pw{xs:Array Keyed}{p m:Nat}(h:Sw lt xs p (p+m)):Pw lt ((xs.toList.drop p).take m):=by
 refine List.pairwise_iff_getElem.mpr ?_;intro i j hi hj sX;have B_:j<m∧p+j<xs.size:=by simp at hj;lia
 have e1:((xs.toList.drop p).take m)[i]=gg xs (p+i):=by
  have:((xs.toList.drop p).take m)[i]?=some (gg xs (p+i)):=by rw[List.getElem?_take,XH XR,List.getElem?_drop,Array.getElem?_toList];exact ko XR
  exact(Xv this).2
 have e2:((xs.toList.drop p).take m)[j]=gg xs (p+j):=by
  have:((xs.toList.drop p).take m)[j]?=some (gg xs (p+j)):=by rw[List.getElem?_take,XH XR,List.getElem?_drop,Array.getElem?_toList];exact ko XR
  exact(Xv this).2
 rw[e1,e2];exact h _ _ (by lia) (by lia) (by lia)
theorem DL{xs:Array Keyed}{p m t:Nat}(h:t<m)(hs:p+m≤xs.size):((xs.toList.drop p).take m)[t]?=some (gg xs (p+t)):=by
 rw[List.getElem?_take,XH h,List.getElem?_drop,Array.getElem?_toList];exact ko XR
variable(C:DB prog w A s X κ lt)
include C
theorem Mu{st:SortSt}{i p m v n u:Nat}{Q:Bool→SortSt→Prop}(b:SB X κ st)(e1:(pendingOf st)[i]?=some (p,m,v))(e2:(pendingOf st)[i+1]?=some (p+m,n,u))(hm:1≤m)(hn:1≤n)(hX:p+m+n≤X.length)(s1:Sw lt (arrOf st) p (p+m))(s2:Sw lt (arrOf st) (p+m) (p+m+n))
  (q:∀aP,SB X κ aP→pendingOf aP=((pendingOf st).setIfInBounds i (p,m+n,v)).eraseIdxIfInBounds (i+1)→(∀t,t<p∨p+m+n≤t→gg (arrOf aP) t=gg (arrOf st) t)→Sw lt (arrOf aP) p (p+m+n)→Q true aP):wpS (model prog w) A E s (mergeAt' i) Q st:=by
 rw[Jx];refine wpS_bind (wpS_get ?_);rw[e1,e2];dsimp only;refine wpS_bind (FP ?_);have hsz:=b.size;refine wpS_bind (eI (ko (xs:=arrOf st) (k:=p+m) (by lia)) ?_);have mem:∀t,t<X.length→gg (arrOf st) t∈X:=fun t h=>b.mem h
 generalize JC:setPending st (((pendingOf st).setIfInBounds i (p,m+n,v)).eraseIdxIfInBounds (i+1))=Y2;have X_:arrOf Y2=arrOf st:=by rw[←JC]
 have b1:SB X κ Y2:=by rw[←JC];exact⟨b.pm,b.kd,b.fl⟩
 have Kz:pendingOf Y2=((pendingOf st).setIfInBounds i (p,m+n,v)).eraseIdxIfInBounds (i+1):=by rw[←JC]
 refine wpS_bind (pM C (fun t=>gg (arrOf st) (p+t)) b1.kd (mem _ (by lia)) (fun t ht=>⟨ko XR,mem _ (by lia)⟩) (fun x y h1 h2=>s1 _ _ (by lia) (by lia) (by lia)) (by lia) fun k hk g1 g2=>?_);dsimp only;have Mv:∀t,t<k→lt (gg (arrOf st) (p+t)) (gg (arrOf st) (p+m))=true:=fun t ht=>by
  have:=g1 t ht;simp only[ky,Bool.false_eq_true,if_false,Bool.not_eq_true']at this;exact b.no C (by lia) (by lia) (by lia) this
 have R4:∀t,k≤t→t<m→lt (gg (arrOf st) (p+m)) (gg (arrOf st) (p+t))=true:=fun t h1 h2=>by
  have:=g2 t h1 h2;simp only[ky,Bool.false_eq_true,if_false,Bool.not_eq_false']at this;exact this
 have tr:=fun{x y z:Nat}(hx:x<X.length)(hy:y<X.length)(hz:z<X.length)=>C.tr _ (mem x hx) _ (mem y hy) _ (mem z hz)
 by_cases ek:(m-k==0)=true
 ·rw[XH ek];have:k=m:=by have:=beq_iff_eq.mp ek;lia
  subst this;refine wpS_pure (q Y2 b1 Kz (fun _ _=>by rw[X_]) ?_);rw[X_];intro x y hx Y1 hy;by_cases h1:y<p+k
  ·exact s1 x y hx Y1 h1
  ·by_cases h2:p+k≤x
   ·exact s2 x y h2 Y1 hy
   ·have h3:=Mv (x-p) (by lia);rw[show p+(x-p)=x by lia]at h3;by_cases h4:y=p+k
    ·rw[h4];exact h3
    ·exact tr XR (by lia) (by lia) h3 (s2 (p+k) y XR (by lia) hy)
 rw[XE ek];have ek:k<m:=by
  have:m-k≠0:=fun z=>ek (beq_iff_eq.mpr z)
  lia
 refine wpS_bind (eI (ko (xs:=arrOf st) (k:=p+k+(m-k)-1) (by lia)) ?_);rw[show p+k+(m-k)-1=p+m-1 by lia];refine wpS_bind (pM C (fun t=>gg (arrOf st) (p+m+t)) b1.kd (mem _ (by lia)) (fun t ht=>⟨ko XR,mem _ (by lia)⟩) (fun x y h1 h2=>s2 _ _ (by lia) (by lia) (by lia)) (by lia) fun l hl g3 g4=>?_);dsimp only;have Qp:∀t,t<l→lt (gg (arrOf st) (p+m+t)) (gg (arrOf st) (p+m-1))=true:=fun t ht=>by
  have:=g3 t ht;simp only[ky,if_true]at this;exact this
 have R5:∀t,l≤t→t<n→lt (gg (arrOf st) (p+m-1)) (gg (arrOf st) (p+m+t))=true:=fun t h1 h2=>by
  have:=g4 t h1 h2;simp only[ky,if_true]at this;exact b.no C (by lia) (by lia) (by lia) this
 have Jk:0<l:=by
  rcases Nat.lt_or_ge 0 l with h|h
  ·exact h
  ·have h1:=R5 0 (by lia) (by lia);have h2:=R4 (m-1) (by lia) (by lia);rw[show p+(m-1)=p+m-1 by lia]at h2;rw[Nat.add_zero]at h1;have:=C.as _ (mem _ (by lia)) _ (mem _ (by lia)) h1;rw[h2]at this;cases this
 rw[XE (by simp;lia)];have ex:((arrOf st).extract (p+k) (p+m)).toList=((arrOf st).toList.drop (p+k)).take (m-k):=by
  simp[Array.toList_extract,List.extract_eq_take_drop]
  congr 1
  lia
 have ey:((arrOf st).extract (p+m) (p+m+l)).toList=((arrOf st).toList.drop (p+m)).take l:=by
  simp[Array.toList_extract,List.extract_eq_take_drop]
 have R6:∀t,t<m-k→(((arrOf st).toList.drop (p+k)).take (m-k))[t]?=some (gg (arrOf st) (p+k+t)):=fun t ht=>DL ht XR
 have R7:∀t,t<l→(((arrOf st).toList.drop (p+m)).take l)[t]?=some (gg (arrOf st) (p+m+t)):=fun t ht=>DL ht XR
 have lx:(((arrOf st).toList.drop (p+k)).take (m-k)).length=m-k:=by simp;lia
 have ly:(((arrOf st).toList.drop (p+m)).take l).length=l:=by simp;lia
 have N3:∀x∈((arrOf st).toList.drop (p+k)).take (m-k),∃t,t<m-k∧x=gg (arrOf st) (p+k+t):=fun x hx=>by
  obtain⟨t,ht⟩:=List.mem_iff_getElem?.mp hx;have gK:=(Xv ht).1;rw[lx]at gK;rw[R6 t gK]at ht;exact⟨t,gK,(XM ht).symm⟩
 have N4:∀x∈((arrOf st).toList.drop (p+m)).take l,∃t,t<l∧x=gg (arrOf st) (p+m+t):=fun x hx=>by
  obtain⟨t,ht⟩:=List.mem_iff_getElem?.mp hx;have gK:=(Xv ht).1;rw[ly]at gK;rw[R7 t gK]at ht;exact⟨t,gK,(XM ht).symm⟩
 have MM:MC X lt ((arrOf st).extract (p+k) (p+m)).toList ((arrOf st).extract (p+m) (p+m+l)).toList:=by
  rw[ex,ey];refine⟨Sw.pw fun x y h1 h2 h3=>s1 x y XR h2 XR,Sw.pw fun x y h1 h2 h3=>s2 x y h1 h2 XR,fun x hx=>?_,fun x hx=>?_,fun x hx y hy=>?_,fun x hx y hy=>?_,fun y hy x hx=>?_⟩
  ·obtain⟨t,ht,rfl⟩:=N3 x hx;exact mem _ (by lia)
  ·obtain⟨t,ht,rfl⟩:=N4 x hx;exact mem _ (by lia)
  ·obtain⟨t,ht,rfl⟩:=N3 x hx;obtain⟨u,hu,rfl⟩:=N4 y hy;exact b.inj C (by lia) (by lia) (by lia)
  ·obtain⟨t,ht,rfl⟩:=N3 x hx;rw[R7 0 Jk]at hy;cases hy;have:=R4 (k+t) (by lia) (by lia);rw[←Nat.add_assoc]at this;exact this
  ·obtain⟨t,ht,rfl⟩:=N4 y hy;rw[lx,R6 _ (by lia)]at hx;cases hx;rw[show p+k+(m-k-1)=p+m-1 by lia];exact Qp t ht
 have fin:∀r dF,Eg Y2 dF→MG lt ((arrOf st).extract (p+k) (p+m)).toList ((arrOf st).extract (p+m) (p+m+l)).toList r.toList→wpS (model prog w) A E s (do
   modify fun st=>B9 (p+k) r st
   return (failedOf (←get)).isNone) Q dF:=fun r dF eg mg=>by
  refine wpS_bind (wpS_modify (wpS_bind (wpS_get (wpS_pure ?_))));have KA:arrOf dF=arrOf st:=eg.2.1.trans X_;have N5:failedOf dF=none:=eg.2.2.2.trans b1.fl;rw[ex,ey]at mg;have KC:r.toList.length=m-k+l:=by have:=mg.1.length_eq;rw[List.length_append,lx,ly]at this;exact this
  have el:(arrOf (B9 (p+k) r dF)).toList=(arrOf st).toList.take (p+k)++r.toList++(arrOf st).toList.drop (p+m+l):=by
   show(r.toList.zipIdx.foldl (fun c q=>c.setIfInBounds (p+k+q.2) q.1) (arrOf dF)).toList=_;rw[DK _ _ _ (by rw[KA,KC];lia),KA,KC,show p+k+(m-k+l)=p+m+l by lia]
  have U3:(arrOf st).toList=(arrOf st).toList.take (p+k)++(((arrOf st).toList.drop (p+k)).take (m-k)++((arrOf st).toList.drop (p+m)).take l)++(arrOf st).toList.drop (p+m+l):=by
   have h1:=nN (arrOf st).toList (p+k) (m-k);have h2:=nN (arrOf st).toList (p+m) l;rw[show p+k+(m-k)=p+m by lia]at h1
   conv=>lhs;rw[←List.take_append_drop (p+k) (arrOf st).toList,h1,h2]
   simp only[List.append_assoc]
  have Qq:∀t,gg (arrOf (B9 (p+k) r dF)) t=((arrOf (B9 (p+k) r dF)).toList[t]?).getD (.none, .none):=fun t=>by rw[nP,Array.getElem?_toList]
  have g0:∀t,gg (arrOf st) t=((arrOf st).toList[t]?).getD (.none, .none):=fun t=>by rw[nP,Array.getElem?_toList]
  have JD:∀t,t<p+k→gg (arrOf (B9 (p+k) r dF)) t=gg (arrOf st) t:=fun t ht=>by
   rw[Qq,g0,el,List.append_assoc,List.getElem?_append_left (by simp;lia),List.getElem?_take,XH ht]
  have DM:∀t,p+m+l≤t→gg (arrOf (B9 (p+k) r dF)) t=gg (arrOf st) t:=fun t ht=>by
   have gK:((arrOf st).toList.take (p+k)++r.toList).length=p+m+l:=by
    rw[List.length_append,KC,List.length_take,Array.length_toList]
    lia
   rw[Qq,g0,el,List.getElem?_append_right XR,List.getElem?_drop,gK]
   congr 2
   lia
  have Qr:∀t,p+k≤t→t<p+m+l→r.toList[t-(p+k)]?=some (gg (arrOf (B9 (p+k) r dF)) t):=fun t h1 h2=>by
   rw[Qq,el,List.append_assoc,List.getElem?_append_right (by simp;lia),List.getElem?_append_left (by rw[List.length_take,Array.length_toList];lia)];rw[show(List.take (p+k) (arrOf st).toList).length=p+k by simp;lia];rw[List.getElem?_eq_getElem XR];rfl
  have cont:∀t,p+k≤t→t<p+m+l→∃u,p+k≤u∧u<p+m+l∧gg (arrOf (B9 (p+k) r dF)) t=gg (arrOf st) u:=fun t h1 h2=>by
   have:=mg.1.mem_iff.mp (XF (Qr t h1 h2));rcases List.mem_append.mp this with z|z
   ·obtain⟨u,hu,e⟩:=N3 _ z;exact⟨p+k+u,by lia,by lia,e⟩
   ·obtain⟨u,hu,e⟩:=N4 _ z;exact⟨p+m+u,by lia,by lia,e⟩
  have hb:SB X κ (B9 (p+k) r dF):=by
   refine⟨?_,eg.1.trans b1.kd,N5⟩;rw[el];refine List.Perm.trans ?_ b.pm
   conv=>rhs;rw[U3]
   exact(List.Perm.append_left _ mg.1).append_right _
  have Lf:(failedOf (B9 (p+k) r dF)).isNone=true:=by rw[show failedOf (B9 (p+k) r dF)=failedOf dF from rfl,N5];rfl
  rw[Lf];refine q _ hb (eg.2.2.1.trans Kz) (fun t ht=>?_) fun x y hx Y1 hy=>?_
  ·rcases ht with ht|ht
   ·exact JD t (by lia)
   ·exact DM t (by lia)
  ·
   have A1:∀t u,p≤t→t<p+k→p+k≤u→u<p+m+n→lt (gg (arrOf st) t) (gg (arrOf st) u)=true:=fun t u h1 h2 h3 h4=>by
    by_cases h5:u<p+m
    ·exact s1 t u h1 XR h5
    ·have h6:=Mv (t-p) (by lia);rw[show p+(t-p)=t by lia]at h6;by_cases h7:u=p+m
     ·rw[h7];exact h6
     ·exact tr XR (by lia) (by lia) h6 (s2 (p+m) u XR (by lia) h4)
   have A2:∀t u,p+k≤t→t<p+m+l→p+m+l≤u→u<p+m+n→lt (gg (arrOf st) t) (gg (arrOf st) u)=true:=fun t u h1 h2 h3 h4=>by
    by_cases h5:p+m≤t
    ·exact s2 t u h5 XR h4
    ·have h6:=R5 (u-(p+m)) (by lia) (by lia);rw[show p+m+(u-(p+m))=u by lia]at h6;by_cases h7:t=p+m-1
     ·rw[h7];exact h6
     ·exact tr XR (by lia) (by lia) (s1 t (p+m-1) (by lia) (by lia) (by lia)) h6
   by_cases h1:x<p+k
   ·rw[JD x h1];by_cases h2:y<p+k
    ·rw[JD y h2];exact s1 x y hx Y1 XR
    ·by_cases h3:y<p+m+l
     ·obtain⟨u,u1,u2,u3⟩:=cont y XR h3;rw[u3];exact A1 x u hx h1 u1 XR
     ·rw[DM y XR];exact A1 x y hx h1 XR hy
   ·by_cases h3:x<p+m+l
    ·by_cases h4:y<p+m+l
     ·exact mg.2.at (i:=x-(p+k)) (j:=y-(p+k)) (by lia) (Qr x (by lia) h3) (Qr y XR h4)
     ·rw[DM y XR];obtain⟨u,u1,u2,u3⟩:=cont x (by lia) h3;rw[u3];exact A2 u y u1 u2 XR hy
    ·rw[DM x (by lia),DM y XR];exact s2 x y XR Y1 hy
 have sx:0<((arrOf st).extract (p+k) (p+m)).size:=by simp;lia
 have sy:0<((arrOf st).extract (p+m) (p+m+l)).size:=by simp;lia
 by_cases R8:m-k≤l
 ·rw[XH R8];exact wpS_bind (Jo C MM b1.kd sx sy fin)
 ·rw[XE R8];exact wpS_bind (Ju C MM b1.kd sx sy fin)
end
abbrev Rn:=Nat×Nat×Nat
def Ch:List Rn→Nat→Nat→Prop
 |[],s,e=>s=e
 |q::r,s,e=>q.1=s∧1≤q.2.1∧Ch r (s+q.2.1) e
theorem Ch.all:∀{l:List Rn}{s e:Nat},Ch l s e→s+l.length≤e∧∀q∈l,s≤q.1∧q.1+q.2.1≤e
 |[],s,e,h=>⟨by have:s=e:=h;simp;lia,fun q hq=>by cases hq⟩
 |q::r,s,e,⟨h1,h2,h3⟩=>by
  obtain⟨a1,a2⟩:=Ch.all h3;refine⟨by simp;lia,fun x hx=>?_⟩;rcases List.mem_cons.mp hx with rfl|hx
  ·lia
  ·have:=a2 x hx;lia
theorem Ch.split:∀{l r:List Rn}{s e:Nat},Ch (l++r) s e↔∃m,Ch l s m∧Ch r m e
 |[],r,s,e=>⟨fun h=>⟨s,rfl,h⟩,fun⟨m,h1,h2⟩=>by have:s=m:=h1;rw[this];exact h2⟩
 |q::l,r,s,e=>by
  constructor
  ·rintro⟨h1,h2,h3⟩;obtain⟨m,a1,a2⟩:=Ch.split.mp h3;exact⟨m,⟨h1,h2,a1⟩,a2⟩
  ·rintro⟨m,⟨h1,h2,a1⟩,a2⟩;exact⟨h1,h2,Ch.split.mpr ⟨m,a1,a2⟩⟩
theorem Ch.mod{f:Rn→Rn}(hf:∀q,(f q).1=q.1∧(f q).2.1=q.2.1):∀{l:List Rn}{j s e:Nat},Ch l s e→Ch (l.modify j f) s e
 |[],j,s,e,h=>by simpa using h
 |q::r,0,s,e,h=>by
  rw[List.modify_zero_cons];obtain⟨h1,h2,h3⟩:=h;refine⟨by rw[(hf q).1];exact h1,by rw[(hf q).2];exact h2,by rw[(hf q).2];exact h3⟩
 |q::r,j+1,s,e,h=>by
  rw[List.modify_succ_cons];exact⟨h.1,h.2.1,Ch.mod hf h.2.2⟩
theorem Av{f:Rn→Rn}:∀{l:List Rn}{j:Nat}{q:Rn},q∈l.modify j f→q∈l∨∃x∈l,q=f x
 |[],j,q,h=>by simp at h
 |x::r,0,q,h=>by
  rw[List.modify_zero_cons]at h;rcases List.mem_cons.mp h with h|h
  ·exact .inr ⟨x,XX,h⟩
  ·exact .inl (List.mem_cons_of_mem _ h)
 |x::r,j+1,q,h=>by
  rw[List.modify_succ_cons]at h;rcases List.mem_cons.mp h with h|h
  ·exact .inl (by rw[h];simp)
  ·rcases Av h with h|⟨y,h1,h2⟩
   ·exact .inl (List.mem_cons_of_mem _ h)
   ·exact .inr ⟨y,List.mem_cons_of_mem _ h1,h2⟩
structure RI(X:List Keyed)(κ:SortKind)(lt:Keyed→Keyed→Bool)(st:SortSt)(lo n:Nat):Prop where
 b:SB X κ st
 ch:Ch (pendingOf st).toList 0 lo
 sw:∀q∈(pendingOf st).toList,Sw lt (arrOf st) q.1 (q.1+q.2.1)
 tl:Sw lt (arrOf st) lo (lo+n)
section
variable{prog:Program}{w:World}{A:Around}{E:Value→Shared→Prop}{s:Shared}{X:List Keyed}{κ:SortKind}{lt:Keyed→Keyed→Bool}(C:DB prog w A s X κ lt)
include C
theorem Hf{st:SortSt}{lo n i:Nat}{Q:Bool→SortSt→Prop}(r:RI X κ lt st lo n)(Ko:lo≤X.length)(hi:i+1<(pendingOf st).size)(q:∀aP,RI X κ lt aP lo n→(pendingOf aP).size+1=(pendingOf st).size→Q true aP):wpS (model prog w) A E s (mergeAt' i) Q st:=by
 have hl:(pendingOf st).toList.length=(pendingOf st).size:=XX;obtain⟨P1,x,y,P2,e,el⟩:∃P1 x y P2,(pendingOf st).toList=P1++x::y::P2∧P1.length=i:=by
  refine⟨(pendingOf st).toList.take i,(pendingOf st).toList[i],(pendingOf st).toList[i+1],(pendingOf st).toList.drop (i+2),?_,by simp;lia⟩
  conv=>lhs;rw[←List.take_append_drop i (pendingOf st).toList]
  rw[List.drop_eq_getElem_cons XR,List.drop_eq_getElem_cons XR]
 obtain⟨p,m,v⟩:=x;obtain⟨p2,k,u⟩:=y;have ch:=r.ch;rw[e]at ch;obtain⟨mid,c1,c2⟩:=Ch.split.mp ch;obtain⟨d1,d2,d3,d4,d5⟩:=c2;dsimp only at d1 d2 d3 d4 d5;subst d1 d3;have a1:=c1.all;have a2:=d5.all;have i1:(pendingOf st)[i]?=some (p,m,v):=by rw[←Array.getElem?_toList,e,List.getElem?_append_right XR,el];simp
 have i2:(pendingOf st)[i+1]?=some (p+m,k,u):=by rw[←Array.getElem?_toList,e,List.getElem?_append_right XR,el];simp
 have w1:=r.sw (p,m,v) (by rw[e];simp);have w2:=r.sw (p+m,k,u) (by rw[e];simp);refine Mu C r.b i1 i2 d2 d4 XR w1 w2 fun aP b' hp JE PH=>?_
 have ep:(pendingOf aP).toList=P1++(p,m+k,v)::P2:=by
  rw[hp];simp only[Array.toList_eraseIdxIfInBounds,Array.toList_setIfInBounds];rw[e,List.set_append_right _ _ (by lia),el,Nat.sub_self,List.set_cons_zero,List.eraseIdx_append_of_length_le XR,el,show i+1-i=1 by lia];rfl
 refine q aP ⟨b',?_,fun z hz=>?_,r.tl.congr fun t h1 h2=>JE t (.inr XR)⟩ ?_
 ·rw[ep];refine Ch.split.mpr ⟨p,c1,rfl,by show 1≤m+k;lia,?_⟩;show Ch P2 (p+(m+k)) lo;rw[←Nat.add_assoc];exact d5
 ·rw[ep]at hz;rcases List.mem_append.mp hz with hz|hz
  ·have h1:=a1.2 z hz;exact(r.sw z (by rw[e];simp[hz])).congr fun t _ h2=>JE t (.inl XR)
  ·rcases List.mem_cons.mp hz with rfl|hz
   ·show Sw lt (arrOf aP) p (p+(m+k));rw[←Nat.add_assoc];exact PH
   ·have h1:=a2.2 z hz;exact(r.sw z (by rw[e];simp[hz])).congr fun t h2 _=>JE t (.inr XR)
 ·have h1:=congrArg List.length ep;have h2:=congrArg List.length e;simp at h1 h2
  lia
theorem JF{st:SortSt}{lo n N w':Nat}{Q:Option Unit×Unit→SortSt→Prop}(r:RI X κ lt st lo n)(Ko:lo≤X.length)(q:∀aP,RI X κ lt aP lo n→Q (none,()) aP):wpS (model prog w) A E s (Qn N w') Q st:=by
 unfold Qn;refine wpS_forRange (I:=fun _ c aP=>c=(none,())∧RI X κ lt aP lo n) ?_ (fun c aP h=>by rw[h.1];exact q aP h.2) ⟨rfl,r⟩;rintro x c aP _ _ ⟨rfl,r'⟩;refine wpS_bind (wpS_get ?_);by_cases hs:(pendingOf aP).size>1
 ·rw[XH hs];have e:(pendingOf aP)[(pendingOf aP).size-2]?=some (pendingOf aP)[(pendingOf aP).size-2]:=XX;rw[e];generalize (pendingOf aP)[(pendingOf aP).size-2]=z;obtain⟨z1,z2,z3⟩:=z;dsimp only;split
  ·exact wpS_pure (q aP r')
  ·refine wpS_bind (Hf C r' Ko XR fun dF r2 _=>?_);rw[if_neg XN];exact wpS_pure ⟨rfl,r2⟩
 ·rw[XE hs];exact wpS_pure (q aP r')
theorem DN{st:SortSt}{lo n N:Nat}{Q:ForInStep (Option Unit×Nat)→SortSt→Prop}(r:RI X κ lt st lo n)(h1:1≤n)(Ko:lo+n≤X.length)(q:∀aP,RI X κ lt aP (lo+n) 0→Q (.yield (none,lo+n)) aP):wpS (model prog w) A E s (N2 N lo n) Q st:=by
 have push:∀aP,RI X κ lt aP lo n→RI X κ lt (N1 lo n aP) (lo+n) 0:=fun aP r'=>by
  have ep:(pendingOf (N1 lo n aP)).toList=(pendingOf aP).toList++[(lo,n,0)]:=by
   show((pendingOf aP).push (lo,n,0)).toList=_;simp
  refine⟨⟨r'.b.pm,r'.b.kd,r'.b.fl⟩,?_,fun z hz=>?_,fun i j a b c=>by lia⟩
  ·rw[ep];exact Ch.split.mpr ⟨lo,r'.ch,rfl,h1,rfl⟩
  ·rw[ep]at hz;rcases List.mem_append.mp hz with hz|hz
   ·exact r'.sw z hz
   ·have:z=(lo,n,0):=by simpa using hz
    subst this;exact r'.tl
 unfold N2;refine wpS_bind (wpS_get ?_);cases e:(pendingOf st).back? with
 |none=>exact wpS_bind (wpS_modify (wpS_pure (q _ (push _ r))))
 |some z=>
  obtain⟨z1,z2,z3⟩:=z;dsimp only;refine wpS_bind (JF C r XR fun dF r2=>?_);dsimp only;refine wpS_bind (wpS_modify (wpS_bind (wpS_modify (wpS_pure (q _ (push _ ?_))))));have ep:(pendingOf (R1 (power' N (2*z1+z2) (2*z1+z2+z2+n) N) dF)).toList=(pendingOf dF).toList.modify ((pendingOf dF).size-1) fun(p,l,_)=>(p,l,power' N (2*z1+z2) (2*z1+z2+z2+n) N):=by
   show((pendingOf dF).modify _ _).toList=_;simp
  refine⟨⟨r2.b.pm,r2.b.kd,r2.b.fl⟩,?_,fun z hz=>?_,r2.tl⟩
  ·rw[ep];refine Ch.mod ?_ r2.ch;exact fun _=>⟨rfl,rfl⟩
  ·rw[ep]at hz;rcases Av hz with hz|⟨x,h1,h2⟩
   ·exact r2.sw z hz
   ·rw[h2];exact r2.sw x h1
theorem JG{st:SortSt}{N:Nat}{Q:Option Unit×Unit→SortSt→Prop}(hN:N=X.length)(h0:0<N)(r:RI X κ lt st N 0)(q:∀aP,SB X κ aP→Sw lt (arrOf aP) 0 N→Q (none,()) aP):wpS (model prog w) A E s (Qo N) Q st:=by
 have one:∀aP,RI X κ lt aP N 0→(pendingOf aP).size≤1→Q (none,()) aP:=fun aP r' hs=>by
  have ch:=r'.ch;have sw:=r'.sw;cases e:(pendingOf aP).toList with
  |nil=>rw[e]at ch;have:0=N:=ch;lia
  |cons x l=>
   have hl:l=[]:=by
    have:=congrArg List.length e;simp at this;exact List.length_eq_zero_iff.mp XR
   subst hl;rw[e]at ch sw;obtain⟨c1,c2,c3⟩:=ch;have c3:0+x.2.1=N:=c3;have:=sw x (XX);rw[c1,c3]at this;exact q aP r'.b this
 unfold Qo;refine wpS_forRange (I:=fun x c aP=>c=(none,())∧RI X κ lt aP N 0∧((pendingOf aP).size+x≤N∨(pendingOf aP).size≤1)) ?_ ?_ ⟨rfl,r, .inl ?_⟩
 ·rintro x c aP _ hx ⟨rfl,r',hs⟩;refine wpS_bind (wpS_get ?_);by_cases h1:(pendingOf aP).size≤1
  ·rw[XH h1];exact wpS_pure (one aP r' h1)
  ·rw[XE h1];refine wpS_bind (Hf C r' XR ?_ fun dF r2 Ex=>?_)
   ·have key:∀c:Bool,(if c=true then(pendingOf aP).size-2-1 else(pendingOf aP).size-2)+1<(pendingOf aP).size:=fun c=>by cases c<;>simp<;>lia
    exact key _
   ·rw[if_neg XN];exact wpS_pure ⟨rfl,r2,by lia⟩
 ·rintro c aP ⟨rfl,r',hs⟩;exact one aP r' (by rcases hs with hs|hs<;>lia)
 ·have:=r.ch.all.1;simp at this
  lia
theorem JH{st:SortSt}{Q:Unit→SortSt→Prop}(h0:0<X.length)(b:SB X κ st)(hp:pendingOf st=#[])(q:∀aP,SB X κ aP→Sw lt (arrOf aP) 0 X.length→Q () aP):wpS (model prog w) A E s sortRuns' Q st:=by
 rw[FO];refine wpS_bind (wpS_get ?_);rw[b.size];refine wpS_bind (wpS_mono (wpS_forRange (I:=fun x c aP=>∃lo,c=(none,lo)∧RI X κ lt aP lo 0∧lo≤X.length∧x≤lo) (Q:=fun c aP=>c.1=none∧RI X κ lt aP X.length 0) ?_ ?_ ⟨0,rfl,⟨b,by rw[hp];rfl,(fun q hq=>by rw[hp]at hq;cases hq),fun i j a b c=>by lia⟩,by lia,by lia⟩) ?_)
 ·rintro x c aP _ hx ⟨lo,rfl,r,Ko,Qs⟩;dsimp only;by_cases h1:lo≥X.length
  ·rw[XH h1];have:lo=X.length:=by lia
   subst this;exact wpS_pure ⟨rfl,r⟩
  ·rw[XE h1];refine wpS_bind (Ms C r.b XR (by lia) fun m dF b2 CA N5 m1 m2 N6=>?_);dsimp only;have r2:RI X κ lt dF lo m:=⟨b2,by rw[CA];exact r.ch,fun z hz=>by
    rw[CA]at hz;have:=r.ch.all.2 z hz;exact(r.sw z hz).congr fun t _ h2=>N5 t (by lia),N6⟩
   by_cases h2:m<minRun' X.length X.length 0
   ·rw[XH h2];refine wpS_bind (wpS_lift (wpAny_rule ⟨rfl,?_⟩));refine wpS_bind (Mt C b2 (n:=min (X.length-lo) (minRun' X.length X.length 0)) (by lia) m1 XR N6 fun Co b3 R9 U4 U5=>?_);rw[if_neg XN];refine DN C ⟨b3,by rw[R9,CA];exact r.ch,fun z hz=>?_,U5⟩ XR (by lia) fun NL r4=>⟨_,rfl,r4,by lia,by lia⟩
    rw[R9]at hz;have:=r2.ch.all.2 z hz;exact(r2.sw z hz).congr fun t _ h2=>U4 t (by lia)
   ·rw[XE h2];exact DN C r2 m1 XR fun NL r4=>⟨_,rfl,r4,by lia,by lia⟩
 ·rintro c aP ⟨lo,rfl,r,Ko,Qs⟩;have:lo=X.length:=by lia
  subst this;exact⟨rfl,r⟩
 ·rintro⟨c1,c2⟩ aP ⟨e,r⟩;dsimp only at e⊢;subst e;exact wpS_bind (JG C rfl h0 r fun dF b2 N6=>wpS_pure (q dF b2 N6))
end
open Classical in
noncomputable def DO(X:List Keyed)(x:Keyed):Nat:=if h:∃i:Nat,X[i]?=some x then Classical.choose h else 0
theorem mB{X:List Keyed}{x:Keyed}(h:x∈X):X[DO X x]?=some x:=by
 have h':∃i:Nat,X[i]?=some x:=List.mem_iff_getElem?.mp h;unfold DO;rw[dif_pos h'];exact Classical.choose_spec h'
theorem JI{X:List Keyed}(nd:X.Nodup){i:Nat}{x:Keyed}(h:X[i]?=some x):DO X x=i:=by
 have:=mB (XF h);exact(List.getElem?_inj (Xv this).1 nd).mp (this.trans h.symm)
theorem mC{X:List Keyed}{x:Keyed}(h:x∈X):DO X x<X.length:=(Xv (mB h)).1
section
variable{prog:Program}{w:World}{A:Around}{E:Value→Shared→Prop}{s:Shared}{X:List Keyed}{κ:SortKind}{lt:Nat→Nat→Bool}
theorem FQ{st:SortSt}{Q:Unit→SortSt→Prop}(nd:X.Nodup)(h0:0<X.length)(L:YA X.length lt)(ha:(arrOf st).toList=X)(hk:kindOf st=κ)(hp:pendingOf st=#[])(hf:failedOf st=none)
  (hc:∀i j x y,X[i]?=some x→X[j]?=some y→∀C:Bool→Shared→Prop,C (lt i j) s→wpAny (model prog w) A (keyLt' κ x.1 y.1) C (fun _ _=>False) s)
  (q:∀p aP,wF X.length p→Sd lt p X.length→(arrOf aP).toList=p.toList.map (fun i=>X.getD i (.none, .none))→failedOf aP=none→Q () aP):wpS (model prog w) A E s sortRuns' Q st:=by
 have C:DB prog w A s X κ fun x y=>lt (DO X x) (DO X y):=by
  refine⟨fun x hx y hy=>hc _ _ x y (mB hx) (mB hy),fun x hx y hy z hz=>L.tr _ _ _ (mC hx) (mC hy) (mC hz),fun x hx y hy=>L.as _ _ (mC hx) (mC hy),fun x hx y hy hn=>L.P_ _ _ (mC hx) (mC hy) fun e=>hn ?_,nd⟩;have h1:=mB hx;rw[e,mB hy]at h1;exact(XM h1).symm
 refine JH C h0 ⟨by rw[ha],hk,hf⟩ hp fun aP b sw=>?_
 have mem:∀x∈(arrOf aP).toList,x∈X:=fun x hx=>b.pm.mem_iff.mp hx
 refine q ((arrOf aP).map (DO X)) aP ?_ (fun i j sX hj=>?_) ?_ b.fl
 ·unfold wF;rw[Array.toList_map];have h1:=b.pm.map (DO X);have h2:X.map (DO X)=List.range X.length:=by
   apply List.ext_getElem
   ·simp
   ·intro i h1 h2;simp only[List.getElem_map,List.getElem_range];exact JI nd (by simp at h1;simp[h1])
  rw[h2]at h1;exact h1
 ·have:=sw i j (Nat.zero_le _) sX hj;have g:∀k,k<X.length→gd ((arrOf aP).map (DO X)) k=DO X (gg (arrOf aP) k):=fun k hk=>by
   have Dn:k<(arrOf aP).size:=by rw[b.size];exact hk
   rw[DA,nP];simp[Dn]
  rw[g i XR,g j hj];exact this
 ·rw[Array.toList_map,List.map_map]
  conv=>lhs;rw[←List.map_id (arrOf aP).toList]
  apply List.map_congr_left;intro x hx;have:=mB (mem x hx);simp[List.getD_eq_getElem?_getD,this]
theorem Aw{ks vs:List Value}(hl:ks.length=vs.length)(h0:0<vs.length)(L:YA vs.length lt)(nd:ks.Nodup)
  (hc:∀i j,i<vs.length→j<vs.length→∀C:Bool→Shared→Prop,C (lt i j) s→wpAny (model prog w) A (keyLt' κ (ks.getD i .none) (ks.getD j .none)) C (fun _ _=>False) s):
  wpAny (model prog w) A ((sortRuns').run (SortSt.mk' κ (ks.toArray.zip vs.toArray) #[] 7 none)) (fun r s'=>∃p:Array Nat,s'=s∧wF vs.length p∧Sd lt p vs.length∧arrOf r.2=p.map (kas_item (ks.toArray.zip vs.toArray))∧failedOf r.2=none) E s:=by
 have hz:(ks.zip vs).length=vs.length:=by rw[List.length_zip];lia
 have ea:(ks.toArray.zip vs.toArray).toList=ks.zip vs:=XX;have U6:(ks.zip vs).Nodup:=by
  refine List.pairwise_iff_getElem.mpr fun i j hi hj sX e=>?_
  rw[List.getElem_zip,List.getElem_zip]at e;have:=(List.getElem_inj nd).mp (Prod.mk.inj e).1
  lia
 have run:=FQ (prog:=prog) (w:=w) (A:=A) (E:=E) (s:=s) (X:=ks.zip vs) (κ:=κ) (lt:=lt) (st:=SortSt.mk' κ (ks.toArray.zip vs.toArray) #[] 7 none) (Q:=fun _ aP=>∃p:Array Nat,wF vs.length p∧Sd lt p vs.length∧arrOf aP=p.map (kas_item (ks.toArray.zip vs.toArray))∧failedOf aP=none) U6 XR (by rw[hz];exact L) ea rfl rfl rfl (fun i j x y hx hy C h=>?_) fun p aP h1 h2 h3 h4=>⟨p,by rw[←hz];exact h1,by rw[←hz];exact h2,?_,h4⟩
 ·unfold wpS at run;refine wpAny_mono run (fun r s' ⟨h1,p,h2⟩=>⟨p,h1,h2⟩) fun _ _ e=>e
 ·obtain⟨x1,x2⟩:=x;obtain⟨y1,y2⟩:=y;have hi:=(Xv hx).1;have hj:=(Xv hy).1;rw[hz]at hi hj;obtain⟨e1,_⟩:=List.getElem?_zip_eq_some.mp hx;obtain⟨e2,_⟩:=List.getElem?_zip_eq_some.mp hy;have:=hc i j hi hj C h;simpa[List.getD_eq_getElem?_getD,e1,e2]using this
 ·apply Array.toList_inj.mp;rw[h3,Array.toList_map];apply List.map_congr_left;intro i _;unfold kas_item;rw[Array.getD_eq_getD_getElem?,←Array.getElem?_toList,ea,List.getD_eq_getElem?_getD]
end
def Kp(a:Addr)(h h':Heap):Prop:=∀b o,b≠a→h.get? b=some o→h'.get? b=some o
section
variable{prog:Program}{w:World}{A:Around}{E:Value→Shared→Prop}{s:Shared}
theorem Bu{a:Addr}{vs:List Value}{n:Nat}{κ:SortKind}{lt:Nat→Nat→Bool}{P:PySem.Fin→Shared→Prop}(ho:s.heap.get? a=some (seqObj "list" vs.toArray n))(h2:2≤vs.length)(DP:vs.length<10000)(Mw:vs.Nodup)(L:YA vs.length lt)
  (hk:∀s',Kp a s.heap s'.heap→∀Q':SortKind→Shared→Prop,Q' κ s'→wpAny (model prog w) A (keyKind' vs.toArray) Q' (fun _ _=>False) s')
  (hc:∀i j,i<vs.length→j<vs.length→∀s',Kp a s.heap s'.heap→∀C:Bool→Shared→Prop,C (lt i j) s'→wpAny (model prog w) A (keyLt' κ (vs.getD i .none) (vs.getD j .none)) C (fun _ _=>False) s')
  (h:∀p h' c,wF vs.length p→Sd lt p vs.length→Kp a s.heap h'→h'.get? a=some (seqObj "list" (List.toArray (p.toList.map fun i=>vs.getD i Value.none)) c)→P (.done (.ret .none)) {s with heap:=h'}):
  wpAny (model prog w) A (Builtin.«list.sort» ⟨[.ref a],[]⟩) P E s:=by
 have s1:=Heap.SameBut.update s.heap a (Obj.mapSeq fun _=>(#[]:Array Value));obtain⟨e1,FR⟩:∃e1,(s.heap.update a (Obj.mapSeq fun _=>(#[]:Array Value))).get? a=some (seqObj "list" #[] e1):=⟨_,get?_update_seq ho fun _=>#[]⟩
 rw[list_sort_plain];refine wpAny_bind (listItems_at ho rfl (wpAny_bind (listUpdate_at ho rfl ?_ (by rw[List.size_toArray,sizeLine_eq];omega) (Nat.zero_le _))));refine wpAny_bind (seqEpoch_at FR rfl (wpAny_bind (wpAny_newTuple (wpAny_bind (wpAny_newList (wpAny_holding ?_) (Nat.zero_le _))) (by show vs.length≤_;rw[sizeLine_eq];omega))));generalize hh:(((s.heap.update a (Obj.mapSeq fun _=>(#[]:Array Value))).push {cls:= .type "tuple",data:= .seq vs.toArray 0}).push {cls:= .type "list",data:= .seq #[] 0})=h3;have k3:Kp a s.heap h3:=fun b o hb e=>by
  rw[←hh];exact XD (XD ((s1.2 b hb).trans e))
 have JJ:h3.get? a=some (seqObj "list" #[] e1):=by
  rw[←hh];exact XD (XD FR)
 show wpAny (model prog w) A _ P E {s with heap:=h3};dsimp only;have ub:¬vs.toArray.size<2:=by rw[List.size_toArray];omega
 rw[XE ub,XE ub];refine wpAny_bind (wpAny_mono (hk {s with heap:=h3} k3 (fun N7 s'=>N7=κ∧s'={s with heap:=h3}) ⟨rfl,rfl⟩) ?_ fun _ _ x=>x.elim);rintro _ _ ⟨rfl,rfl⟩;refine wpAny_bind (wpAny_mono (Aw (lt:=lt) rfl (XT) L Mw fun i j hi hj C hC=>hc i j hi hj {s with heap:=h3} k3 C hC) ?_ fun _ _ e=>e);rintro⟨⟨⟩,aP⟩ s' ⟨p,rfl,hp,hs,Qt,hf⟩;dsimp only;rw[kat_snds rfl Qt];have hsz:(List.toArray (p.toList.map fun i=>vs.getD i Value.none)).size=vs.length:=by rw[List.size_toArray,List.length_map,Array.length_toList,hp.size]
 have s2:=Heap.SameBut.update h3 a (Obj.mapSeq fun _=>List.toArray (p.toList.map fun i=>vs.getD i Value.none));obtain⟨c2,u7⟩:∃c2,(h3.update a (Obj.mapSeq fun _=>List.toArray (p.toList.map fun i=>vs.getD i Value.none))).get? a=some (seqObj "list" (List.toArray (p.toList.map fun i=>vs.getD i Value.none)) c2):=⟨_,get?_update_seq JJ fun _=>List.toArray (p.toList.map fun i=>vs.getD i Value.none)⟩
 refine wpAny_bind (seqEpoch_at (s:={s with heap:=h3}) JJ rfl (wpAny_bind (listUpdate_at (s:={s with heap:=h3}) JJ rfl ?_ (Nat.zero_le _) (Nat.le_trans (Nat.le_of_eq hsz) (by rw[sizeLine_eq];omega)))));rw[hf];simp only[bne_self_eq_false,Bool.false_eq_true,if_false];exact wpAny_pure (h p _ c2 hp hs (fun b o hb e=>(s2.2 b hb).trans (k3 b o hb e)) u7)
theorem Zg{a:Addr}{vs:List Value}{n:Nat}{P:PySem.Fin→Shared→Prop}(ho:s.heap.get? a=some (seqObj "list" vs.toArray n))(h2:vs.length<2)
  (h:∀h' c,Kp a s.heap h'→h'.get? a=some (seqObj "list" vs.toArray c)→P (.done (.ret .none)) {s with heap:=h'}):
  wpAny (model prog w) A (Builtin.«list.sort» ⟨[.ref a],[]⟩) P E s:=by
 have s1:=Heap.SameBut.update s.heap a (Obj.mapSeq fun _=>(#[]:Array Value));obtain⟨e1,FR⟩:∃e1,(s.heap.update a (Obj.mapSeq fun _=>(#[]:Array Value))).get? a=some (seqObj "list" #[] e1):=⟨_,get?_update_seq ho fun _=>#[]⟩
 rw[list_sort_plain];refine wpAny_bind (listItems_at ho rfl (wpAny_bind (listUpdate_at ho rfl ?_ (by rw[List.size_toArray,sizeLine_eq];omega) (Nat.zero_le _))));refine wpAny_bind (seqEpoch_at FR rfl (wpAny_bind (wpAny_newTuple (wpAny_bind (wpAny_newList (wpAny_holding ?_) (Nat.zero_le _))) (by show vs.length≤_;rw[sizeLine_eq];omega))));generalize hh:(((s.heap.update a (Obj.mapSeq fun _=>(#[]:Array Value))).push {cls:= .type "tuple",data:= .seq vs.toArray 0}).push {cls:= .type "list",data:= .seq #[] 0})=h3;have k3:Kp a s.heap h3:=fun b o hb e=>by
  rw[←hh];exact XD (XD ((s1.2 b hb).trans e))
 have JJ:h3.get? a=some (seqObj "list" #[] e1):=by
  rw[←hh];exact XD (XD FR)
 show wpAny (model prog w) A _ P E {s with heap:=h3};dsimp only;have ub:vs.toArray.size<2:=by rw[List.size_toArray];omega
 rw[XH ub,XH ub];refine wpAny_bind (wpAny_pure (wpAny_bind (wpAny_pure ?_)));dsimp only;have Qu:(arrOf (SortSt.mk' general' (vs.toArray.zip vs.toArray) #[] 7 none)).map (·.2)=vs.toArray:=by
  show(vs.toArray.zip vs.toArray).map (·.2)=vs.toArray;apply Array.toList_inj.mp;rw[Array.toList_map,Array.toList_zip];exact List.map_snd_zip (Nat.le_refl _)
 have s2:=Heap.SameBut.update h3 a (Obj.mapSeq fun _=>vs.toArray);obtain⟨c2,u7⟩:∃c2,(h3.update a (Obj.mapSeq fun _=>vs.toArray)).get? a=some (seqObj "list" vs.toArray c2):=⟨_,get?_update_seq JJ fun _=>vs.toArray⟩
 rw[Qu];refine wpAny_bind (seqEpoch_at (s:={s with heap:=h3}) JJ rfl (wpAny_bind (listUpdate_at (s:={s with heap:=h3}) JJ rfl ?_ (Nat.zero_le _) (by rw[List.size_toArray,sizeLine_eq];omega))));simp only[bne_self_eq_false,Bool.false_eq_true,if_false];exact wpAny_pure (h _ c2 (fun b o hb e=>(s2.2 b hb).trans (k3 b o hb e)) u7)
theorem ZN{l:Addr}{vs:List Value}{κ:SortKind}{lt:Nat→Nat→Bool}{Q:Value→Shared→Prop}(hl:s.heap.IsList l vs.toArray)(DP:vs.length<10000)(Mw:vs.Nodup)(L:YA vs.length lt)
  (hk:2≤vs.length→∀s',(∀b o,s.heap.get? b=some o→s'.heap.get? b=some o)→∀Q':SortKind→Shared→Prop,Q' κ s'→wpAny (model prog w) A.in1.in1 (keyKind' vs.toArray) Q' (fun _ _=>False) s')
  (hc:∀i j,i<vs.length→j<vs.length→∀s',(∀b o,s.heap.get? b=some o→s'.heap.get? b=some o)→∀C:Bool→Shared→Prop,C (lt i j) s'→wpAny (model prog w) A.in1.in1 (keyLt' κ (vs.getD i .none) (vs.getD j .none)) C (fun _ _=>False) s')
  (h:∀p h' D c,wF vs.length p→Sd lt p vs.length→(∀b o,s.heap.get? b=some o→h'.get? b=some o)→s.heap.objs.size≤D→h'.get? D=some (seqObj "list" (List.toArray (p.toList.map fun i=>vs.getD i Value.none)) c)→Q (.ref D) {s with heap:=h'}):
  wpAny (model prog w) A (call (.builtin "sorted") [.ref l]) Q E s:=by
 refine Calls.call_function_entry kind_sorted plain_sorted entry_sorted (args_sorted1 _) ?_;unfold Builtin.«sorted»;refine wpAny_bind (m:=checkCount "sorted" 1 1 _) (wpAny_pure (wpAny_bind (collect_list hl (wpAny_bind (wpAny_newList ?_ (by rw[sizeLine_eq];omega))) (by rw[sizeLine_eq];omega))));generalize hh:((s.heap.push (seqObj "list" #[] 0)).update s.heap.objs.size (Obj.mapSeq (·++vs.toArray)))=h1;have hsz:h1.objs.size=s.heap.objs.size+1:=by rw[←hh,Heap.size_update,size_push']
 have keep:∀b o,s.heap.get? b=some o→(h1.push (seqObj "list" vs.toArray 0)).get? b=some o:=fun b o q=>by
  have gK:b<s.heap.objs.size:=Heap.lt_size q;rw[Heap.get?_push_ne _ _ _ (by rw[hsz];exact Nat.ne_of_lt (Nat.lt_succ_of_lt gK)),←hh,Heap.get?_update_ne _ _ _ _ (Nat.ne_of_lt gK),Heap.get?_push_ne _ _ _ (Nat.ne_of_lt gK)];exact q
 have Gv:(h1.push (seqObj "list" vs.toArray 0)).get? h1.objs.size=some (seqObj "list" vs.toArray 0):=Heap.get?_push_size _ rfl;have Hg:∀h',Kp h1.objs.size (h1.push (seqObj "list" vs.toArray 0)) h'→∀b o,s.heap.get? b=some o→h'.get? b=some o:=fun h' k b o q=>k b o (by have:=Heap.lt_size q;rw[hsz];exact Nat.ne_of_lt (Nat.lt_succ_of_lt this)) (keep b o q)
 show wpAny _ _ _ _ _ {s with heap:=h1.push (seqObj "list" vs.toArray 0)};refine wpAny_bind (wpAny_holding (wpAny_call_entry slot_list_sort ⟨_,Gv,rfl⟩ entry_list_sort ?_ (args_list_sort _)));by_cases h2:2≤vs.length
 ·refine Bu (s:={s with heap:=h1.push (seqObj "list" vs.toArray 0)}) (lt:=lt) Gv h2 DP Mw L (fun s' k Q' q=>hk h2 s' (Hg _ k) Q' q) (fun i j hi hj s' k C q=>hc i j hi hj s' (Hg _ k) C q) fun p h' c hp hs k e=>?_
  exact⟨_,rfl,wpAny_pure ⟨_,rfl,h p h' _ c hp hs (Hg _ k) (by rw[show({s with heap:=h1}:Shared).heap.objs.size=h1.objs.size from rfl,hsz];exact Nat.le_succ _) e⟩⟩
 ·refine Zg (s:={s with heap:=h1.push (seqObj "list" vs.toArray 0)}) Gv XQ fun h' c k e=>?_
  have hp:wF vs.length (List.toArray (List.range vs.length)):=by unfold wF;simp
  refine⟨_,rfl,wpAny_pure ⟨_,rfl,h _ h' _ c hp (fun i j sX hj=>XT) (Hg _ k) (by rw[show({s with heap:=h1}:Shared).heap.objs.size=h1.objs.size from rfl,hsz];exact Nat.le_succ _) ?_⟩⟩;rw[e]
  congr 2
  match vs,h2 with
  |[],_=>rfl
  |[x],_=>rfl
  |x::y::r,h=>simp at h
end
def jD(p q:Int×Int):Bool:=if p.1=q.1 then decide (p.2<q.2)else decide (p.1<q.1)
theorem DQ{p q r:Int×Int}(a:jD p q=true)(b:jD q r=true):jD p r=true:=by
 unfold jD at*;split at a<;>split at b<;>split<;>simp_all<;>omega
theorem DR{p q:Int×Int}(a:jD p q=true):jD q p=false:=by
 unfold jD at*;split at a<;>split<;>simp_all<;>omega
theorem Ax{p q:Int×Int}(h:p≠q):jD p q=true∨jD q p=true:=by
 unfold jD;by_cases e:p.1=q.1
 ·have:p.2≠q.2:=fun z=>h (Prod.ext e z)
  simp[e];omega
 ·have e':¬q.1=p.1:=fun z=>e z.symm
  simp[e,e'];omega
section
variable{prog:Program}{w:World}{A:Around}{E:Value→Shared→Prop}{s:Shared}
def qD(h:Heap)(x:Addr)(p:Int×Int):Prop:=∃o t u n,h.get? x=some o∧o.cls= .type "tuple"∧o.data= .seq #[.int p.1 t, .int p.2 u] n
theorem FT{x y:Addr}{p q:Int×Int}{C:Bool→Shared→Prop}(hx:qD s.heap x p)(hy:qD s.heap y q)(h:C (jD p q) s):wpAny (model prog w) A (keyLt' (tuples' true) (.ref x) (.ref y)) C E s:=by
 obtain⟨ox,t,u,n,h1,h2,h3⟩:=hx;obtain⟨oy,t',u',n',g1,g2,g3⟩:=hy;refine kat_lt h1 h3 g1 g3 (kat_cons ?_);have e0:SeqAt.EqAt A s (.int p.1 t) (.int q.1 t') (uV (.int p.1) (.int q.1)):=uW ⟨t,rfl⟩ ⟨t',rfl⟩ rfl rfl;have e1:SeqAt.EqAt A s (.int p.2 u) (.int q.2 u') (uV (.int p.2) (.int q.2)):=uW ⟨u,rfl⟩ ⟨u',rfl⟩ rfl rfl;refine e0 _ _ _ _ ?_;by_cases a:p.1=q.1
 ·have:uV (.int p.1) (.int q.1)=true:=by simp[uV,a]
  rw[this];refine kat_yes (kat_cons (e1 _ _ _ _ ?_));by_cases b:p.2=q.2
  ·have:uV (.int p.2) (.int q.2)=true:=by simp[uV,b]
   rw[this];refine kat_yes (kat_nil ?_);have:jD p q=decide (#[Value.int p.1 t, .int p.2 u].size<#[Value.int q.1 t', .int q.2 u'].size):=by simp[jD,a,b]
   rw[this]at h;exact h
  ·have:uV (.int p.2) (.int q.2)=false:=by simp[uV,b]
   rw[this];refine kat_no (kat_one _ _ (lt_int ?_));have:jD p q=decide (p.2<q.2):=by simp[jD,a]
   rw[this]at h;exact h
 ·have:uV (.int p.1) (.int q.1)=false:=by simp[uV,a]
  rw[this];refine kat_no (oneLt_int ?_);have:jD p q=decide (p.1<q.1):=by simp[jD,a]
  rw[this]at h;exact h
theorem uC{h:Heap}:∀{its:List Value},(∀v∈its,∃x p,v= .ref x∧qD h x p)→∃fs,KatTups h its fs∧fs.length=its.length∧∀f∈fs,∃i t,f=Value.int i t
 |[],_=>⟨[], .nil,rfl,fun f hf=>by cases hf⟩
 |v::r,hv=>by
  obtain⟨x,p,rfl,o,t,u,n,h1,h2,h3⟩:=hv v (List.mem_cons_self ..);obtain⟨fs,k1,k2,k3⟩:=uC (its:=r) fun v Lx=>hv v (List.mem_cons_of_mem _ Lx)
  refine⟨.int p.1 t::fs, .cons h1 h2 h3 rfl k1,by simp[k2],fun f hf=>?_⟩;rcases List.mem_cons.mp hf with rfl|hf
  ·exact⟨_,_,rfl⟩
  ·exact k3 f hf
theorem Bv{its:List Value}{Q:SortKind→Shared→Prop}(d6:0<its.length)(hv:∀v∈its,∃x p,v= .ref x∧qD s.heap x p)(h:Q (tuples' true) s):wpAny (model prog w) A (keyKind' its.toArray) Q E s:=by
 obtain⟨fs,k1,k2,k3⟩:=uC hv;refine kat_kind (T:= .type "int") k1 XQ (fun v hv=>?_) (XU) h;obtain⟨i,t,rfl⟩:=k3 v hv;exact .now
end
theorem Yw{l:List Nat}{f:Nat→V}{g:Nat→Value}(h:∀i∈l,RelV (f i) (g i)):Vals (l.map f) (l.map g):=by
 induction l with
 |nil=>exact .nil
 |cons i r ih=>exact .cons (h i (List.mem_cons_self ..)) (ih fun j hj=>h j (List.mem_cons_of_mem _ hj))
end L2
namespace QF
open PySem L2 PySem.Spec PyProof.Rows PySem.W PySem.Calls
inductive DS(K:Frag)(vs:List V)(H:Hp)(Q:VK):Prop
 |mk (l:Addr) (xs:List V) (ps:List Pr) (_:vs=[.ref l]) (_:gZ K H l xs) (_:eG H xs ps) (_:ps.Nodup) (_:ps.length<10000) (_:∀D ys qs,H D=none→eG H ys qs→qs.Perm ps→qs.Pairwise (fun p q=>jD p q=true)→Q (.ref D) (upd H D (.lst ys))):DS K vs H Q
theorem Za{X:Cx}(K:Frag)(hK:X.K=K:=by rfl):gL X (.builtin "sorted") (DS K):=by
 subst hK;intro pins s σ H vs us Q I r h;obtain⟨l,xs,ps,rfl,hq,PS,nd,DP,q⟩:=h;obtain⟨u,rfl,rx⟩:=vals1 r;cases rx;obtain⟨its,r',pl,hz⟩:=I.list hq;have hlen:=r'.length;have nh:=PS.1;have key:∀i,i<its.length→∃t,xs[i]?=some (.ref t)∧its[i]?=some (.ref t)∧H t=some (.tup (ju (ps.getD i (0,0))))∧qD s.heap t (ps.getD i (0,0)):=fun i hi=>by
  have hp:ps[i]?=some (ps.getD i (0,0)):=by simp[show i<ps.length by omega]
  obtain⟨t,h1,h2⟩:=PS.2 i _ hp;obtain⟨v,h3,h4⟩:=r'.get h1;cases h4;refine⟨t,h1,h3,h2,?_⟩;obtain⟨WX,r2,⟨o,e1,e2,n,e3⟩,_⟩:=I.tuple (xs:=ju (ps.getD i (0,0))) (.of h2);cases r2 with
  |cons a b=>
   cases b with
   |cons c d=>
    cases d;obtain⟨ta,rfl⟩:=a;obtain⟨tc,rfl⟩:=c;exact⟨o,ta,tc,n,e1,e2,e3⟩
 have Hg:∀{h':Heap},(∀b o,s.heap.get? b=some o→h'.get? b=some o)→∀{x p},qD s.heap x p→qD h' x p:=fun k _ _ ⟨o,t,u,n,a,b⟩=>⟨o,t,u,n,k _ _ a,b⟩
 have L:YA its.length fun i j=>jD (ps.getD i (0,0)) (ps.getD j (0,0)):=by
  refine⟨fun i j k _ _ _ a b=>DQ a b,fun i j _ _ a=>DR a,fun i j hi hj d6=>Ax fun e=>d6 ?_⟩;have e:ps[i]?=ps[j]?:=by
   rw[List.getElem?_eq_getElem XQ,List.getElem?_eq_getElem XQ];simpa[show i<ps.length by omega,show j<ps.length by omega]using e
  exact(List.getElem?_inj XQ nd).mp e
 have Mw:its.Nodup:=by
  refine List.pairwise_iff_getElem.mpr fun i j hi hj sX e=>?_
  obtain⟨t1,_,a2,a3,_⟩:=key i hi;obtain⟨t2,_,b2,b3,_⟩:=key j hj;rw[List.getElem?_eq_getElem hi]at a2;rw[List.getElem?_eq_getElem hj,←e,a2]at b2;cases b2;rw[a3]at b3;have h1:ps[i]?=some (ps.getD i (0,0)):=by simp[show i<ps.length by omega]
  have h2:ps[j]?=some (ps.getD j (0,0)):=by simp[show j<ps.length by omega]
  have e9:ps.getD i (0,0)=ps.getD j (0,0):=by
   have:=HO.tup.inj (XM b3);simp only[ju,List.cons.injEq,V.int.injEq,and_true]at this;exact Prod.ext this.1 this.2
  have:=(List.getElem?_inj XQ nd).mp (h1.trans (by rw[e9];exact h2.symm));omega
 refine ZN (κ:=tuples' true) pl.isList XQ Mw L (fun h2 s' k Q' hq=>?_) (fun i j hi hj s' k C hC=>?_) fun p h' D c hp hs k hD e=>?_
 ·refine Bv XQ (fun v hv=>?_) hq;obtain⟨i,hi,rfl⟩:=List.mem_iff_getElem.mp hv;obtain⟨t,_,h3,_,h5⟩:=key i hi;exact⟨t,_,by rw[List.getElem?_eq_getElem hi]at h3;exact XM h3,Hg k h5⟩
 ·obtain⟨t,_,h3,_,h5⟩:=key i hi;obtain⟨t',_,g3,_,g5⟩:=key j hj;have e1:its.getD i .none= .ref t:=by simp[h3]
  have e2:its.getD j .none= .ref t':=by simp[g3]
  rw[e1,e2];exact FT (Hg k h5) (Hg k g5) hC
 ·have mem:∀i∈p.toList,i<its.length:=fun i hi=>by
   have:=hp.mem_iff.mp hi;simpa using this
  have rel:Vals (p.toList.map fun i=>xs.getD i .cJ) (p.toList.map fun i=>its.getD i Value.none):=Yw fun i hi=>by
   obtain⟨t,h1,h3,_⟩:=key i (mem i hi);have e1:xs.getD i .cJ= .ref t:=by simp[h1]
   have e2:its.getD i .none= .ref t:=by simp[h3]
   rw[e1,e2];rfl
  have hsz:(p.toList.map fun i=>xs.getD i V.cJ).length=its.length:=by rw[List.length_map,Array.length_toList,hp.size]
  have JK:(p.toList.map fun i=>ps.getD i (0,0)).length=its.length:=by rw[List.length_map,Array.length_toList,hp.size]
  refine⟨.ref D,_,I.laid (t':=s.toks) k hD (show cK X.prog X.w _ h' _ (.lst _)from⟨by rw[hsz,←hlen];exact hz,_,c,rel,e⟩),rfl,q D _ (p.toList.map fun i=>ps.getD i (0,0)) (I.bR.fresh hD) ⟨by rw[hsz,JK],fun i f hf=>?_⟩ ?_ ?_⟩
  ·rw[List.getElem?_map]at hf⊢;cases ei:p.toList[i]? with
   |none=>rw[ei]at hf;cases hf
   |some j=>
    rw[ei]at hf;have hf:ps.getD j (0,0)=f:=XM hf;obtain⟨t,h1,h3,h4,_⟩:=key j (mem j (XF ei));refine⟨t,?_,by rw[←hf];exact h4⟩;show some (xs.getD j .cJ)=_;simp[h1]
  ·have h1:=hp.map (fun i=>ps.getD i (0,0));refine h1.trans ?_;have:(List.range its.length).map (fun i=>ps.getD i (0,0))=ps:=by
    apply List.ext_getElem?;intro i;rw[List.getElem?_map];by_cases hi:i<its.length
    ·rw[List.getElem?_range hi];simp[show i<ps.length by omega]
    ·rw[List.getElem?_eq_none (by simp;omega),List.getElem?_eq_none XQ];rfl
   rw[this]
  ·rw[List.pairwise_iff_getElem];intro i j hi hj sX;have Y3:i<its.length:=by rw[JK]at hi;exact hi
   have B_:j<its.length:=by rw[JK]at hj;exact hj
   have:=hs i j sX B_;have Bw:=hp.size;simp only[List.getElem_map];have e1:gd p i=p.toList[i]'(by simp;omega):=by simp[gd,show i<p.size by omega]
   have e2:gd p j=p.toList[j]'(by simp;omega):=by simp[gd,show j<p.size by omega]
   rw[e1,e2]at this;exact this
end QF
namespace L2
open PySem PySem.Spec PyProof.Rows PySem.W PySem.Calls
open AutoSeq1 (wpAny_loadPart')
theorem Mx{A:Around}{s:Shared}{i j:Int}{t u:Tok}:SeqAt.EqAt A s (.int i t) (.int j u) (decide (i=j)):=by
 have:=uW (A:=A) (s:=s) (y:= .int i) (x:= .int j) ⟨t,rfl⟩ ⟨u,rfl⟩ rfl rfl;simpa[uV,Bool.beq_eq_decide_eq]using this
theorem My{prog:Program}{w:World}{A:Around}{E:Value→Shared→Prop}{s:Shared}{i j:Int}{t u:Tok}{Q:Value→Shared→Prop}(h:Q (.bool (decide (i<j))) s):wpAny (model prog w) A (richCompare .Lt (.int i t) (.int j u)) Q E s:=lt_int h
theorem DT(l b:Addr)(p q:Int×Int)(t u t' u':Tok)(n n2:Nat)(dd Fn:Option Addr)(sl X6:Array (Option Value)):
  Meets (Builtin.«tuple.__lt__» ⟨[.ref l, .ref b],[]⟩) (fun A R s=>s.heap.get? l=some {cls:= .type "tuple",dict:=dd,data:= .seq #[.int p.1 t, .int p.2 u] n,slots:=sl}∧s.heap.get? b=some {cls:= .type "tuple",dict:=Fn,data:= .seq #[.int q.1 t', .int q.2 u'] n2,slots:=X6}∧
    R (.ok (.ret (.bool (jD p q)))) s):=
 .of_wp fun prog w A R s h=>by
  obtain⟨hp,g,d,tk,os⟩:=s;obtain⟨hl,hb,h⟩:=h;have f2:=AutoSeq1.sub_tuple_tuple
  wp_walk using wpAny_loadPart' hl,wpAny_loadPart' hb
  refine(show wpAny (model prog w) A.in1 (eqBool (.int p.1 t) (.int q.1 t')) _ _ _ from Mx _ _ _ _ ?_);by_cases a:p.1=q.1
  ·rw[decide_eq_true a]
   wp_walk
   refine(show wpAny (model prog w) A.in1 (eqBool (.int p.2 u) (.int q.2 u')) _ _ _ from Mx _ _ _ _ ?_);by_cases c:p.2=q.2
   ·rw[decide_eq_true c]
    wp_walk
    have e:jD p q=false:=by simp[jD,a,c]
    rw[e]at h;exact⟨_,rfl,h⟩
   ·rw[decide_eq_false c];have e:jD p q=decide (p.2<q.2):=by simp[jD,a]
    rw[e]at h
    wp_walk using My
    exact⟨_,rfl,h⟩
  ·rw[decide_eq_false a];have e:jD p q=decide (p.1<q.1):=by simp[jD,a]
   rw[e]at h
   wp_walk using My
   exact⟨_,rfl,h⟩
theorem ZV{prog:Program}{w:World}{A:Around}{E:Value→Shared→Prop}{s:Shared}{x y:Addr}{p q:Int×Int}{Q:Value→Shared→Prop}(hu:A.units<cLine)(hx:qD s.heap x p)(hy:qD s.heap y q)(h:Q (.bool (jD p q)) s):wpAny (model prog w) A (compareOp .Lt (.ref x) (.ref y)) Q E s:=by
 obtain⟨⟨c,dd,da,sl⟩,t,u,n,h1,h2,h3⟩:=hx;obtain⟨⟨c',GL,WY,OP⟩,t',u',n',g1,g2,g3⟩:=hy;simp only at h2 h3 g2 g3;subst h2 h3 g2 g3;exact richCompare_meets_room (op:= .Lt) ⟨_,h1,rfl⟩ ⟨_,g1,rfl⟩ F.slot_tuple_lt F.entry_tuple_lt (F.args_tuple_lt_2 _ _) (DT x y p q t u t' u' n n' dd GL sl OP) ⟨h1,g1,show Value.bool (jD p q)≠Value.notImplemented∧Q (.bool (jD p q)) s from⟨(fun x=>nomatch x),h⟩⟩ hu
abbrev Kw:=Int×(Int×Int)
def X'(a b:Kw):Bool:=if a.1=b.1 then jD a.2 b.2 else decide (a.1<b.1)
theorem JL{p q r:Kw}(a:X' p q=true)(b:X' q r=true):X' p r=true:=by
 unfold X' at*;by_cases h1:p.1=q.1<;>by_cases h2:q.1=r.1
 ·rw[XH h1]at a;rw[XH h2]at b;rw[XH (h1.trans h2)];exact DQ a b
 ·rw[XE h2]at b;rw[XE (by rw[h1];exact h2),h1];exact b
 ·rw[XE h1]at a;rw[XE (by rw[←h2];exact h1),←h2];exact a
 ·rw[XE h1]at a;rw[XE h2]at b;have a:=of_decide_eq_true a;have b:=of_decide_eq_true b;rw[if_neg XQ];exact decide_eq_true XQ
theorem JM{p q:Kw}(a:X' p q=true):X' q p=false:=by
 unfold X' at*;by_cases h1:p.1=q.1
 ·rw[XH h1]at a;rw[XH h1.symm];exact DR a
 ·rw[XE h1]at a;rw[XE (fun z=>h1 z.symm)];have a:=of_decide_eq_true a;exact decide_eq_false XQ
theorem FU{p q:Kw}(h:p≠q):X' p q=true∨X' q p=true:=by
 unfold X';by_cases h1:p.1=q.1
 ·rw[XH h1,XH h1.symm];exact Ax fun z=>h (Prod.ext h1 z)
 ·rw[XE h1,XE (fun z=>h1 z.symm)];rcases Int.lt_or_lt_of_ne h1 with z|z
  ·exact .inl (decide_eq_true z)
  ·exact .inr (decide_eq_true z)
section
variable{prog:Program}{w:World}{A:Around}{E:Value→Shared→Prop}{s:Shared}
def uD(h:Heap)(x:Addr)(k:Kw):Prop:=∃o t y c,h.get? x=some o∧o.cls= .type "tuple"∧o.data= .seq #[.int k.1 t, .ref y] c∧qD h y k.2
theorem Bx{x y:Addr}{p q:Int×Int}(hu:A.units+1<cLine)(hx:qD s.heap x p)(hy:qD s.heap y q):SeqAt.EqAt A s (.ref x) (.ref y) (decide (p=q)):=by
 obtain⟨o,t,u,n,h1,h2,h3⟩:=hx;obtain⟨o',t',u',n',g1,g2,g3⟩:=hy;by_cases e:x=y
 ·subst e;rw[h1]at g1;cases g1;rw[h3]at g3;injection g3 with g3 _;have g3:=congrArg Array.toList g3;simp at g3;have:p=q:=Prod.ext g3.1.1 g3.2.1;rw[decide_eq_true this];exact SeqAt.EqAt.same _
 ·have:=SeqAt.EqAt.of_refs e (SeqAt.RcAt.tuples (A:=A) (s:=s) (items:=#[.int p.1 t, .int p.2 u]) (items2:=#[.int q.1 t', .int q.2 u']) (e:=fun j=>if j=0 then decide (p.1=q.1)else decide (p.2=q.2)) ⟨o,h1,h2,n,h3⟩ ⟨o',g1,g2,n',g3⟩ XQ fun j h1 h2=>by
   have:j=0∨j=1:=by simp at h1;omega
   rcases this with rfl|rfl
   ·exact Mx
   ·exact Mx)
  have e2:((List.range (min #[Value.int p.1 t, .int p.2 u].size #[Value.int q.1 t', .int q.2 u'].size)).all (fun j=>if j=0 then decide (p.1=q.1)else decide (p.2=q.2))&&#[Value.int p.1 t, .int p.2 u].size==#[Value.int q.1 t', .int q.2 u'].size)=decide (p=q):=by
   simp[List.range_succ];by_cases a:p.1=q.1<;>by_cases b:p.2=q.2<;>simp[Prod.ext_iff,a,b]
  rw[e2]at this;exact this
theorem JN{x y:Addr}{p q:Kw}{C:Bool→Shared→Prop}(hu:A.units+1<cLine)(hx:uD s.heap x p)(hy:uD s.heap y q)(h:C (X' p q) s):wpAny (model prog w) A (keyLt' (tuples' true) (.ref x) (.ref y)) C E s:=by
 obtain⟨ox,t,z,n,h1,h2,h3,h4⟩:=hx;obtain⟨oy,t',z',n',g1,g2,g3,g4⟩:=hy;refine kat_lt h1 h3 g1 g3 (kat_cons (Mx _ _ _ _ ?_));by_cases a:p.1=q.1
 ·rw[decide_eq_true a];refine kat_yes (kat_cons (Bx hu h4 g4 _ _ _ _ ?_));have e:X' p q=jD p.2 q.2:=XH a;by_cases b:p.2=q.2
  ·rw[decide_eq_true b];refine kat_yes (kat_nil ?_);have:X' p q=decide (#[Value.int p.1 t, .ref z].size<#[Value.int q.1 t', .ref z'].size):=by rw[e,b];simp[jD]
   rw[this]at h;exact h
  ·rw[decide_eq_false b];rw[e]at h;exact kat_no (kat_one _ _ (ZV XQ h4 g4 h))
 ·rw[decide_eq_false a];have e:X' p q=decide (p.1<q.1):=XE a;rw[e]at h;exact kat_no (oneLt_int h)
end
theorem JO{X:Cx}{cm:Bool}{k:Nat}{f:Addr}{fd:FuncData}{ps:List Str}{sp:Sp}{A':Around}{pins:List (Addr×Obj)}{σ:St}{H:Hp}{s:Shared}{Q:VK}{us:List Value}{vs:List V}{E:Value→Shared→Prop}
  (F:aZ X.prog X.w X.K X.mg X.base (de X.prog X.w) cm k f fd ps sp) (hr:eC cm k A') (hf:A'.frames=X.A.frames) (hb:Binds X.K fd ps []) (I:Inv X pins σ H s) (r:Vals vs us) (h:sp vs H Q E0):
  wpAny (model X.prog X.w) A' (call (.ref f) us) (EP X pins σ Q) E s:=by
 have hl:(us++[]).length=ps.length:=by rw[List.append_nil,←r.length];exact F.len _ _ _ _ h
 have Kt:=hb s us I.o7 hl;rw[List.append_nil]at Kt;refine wpAny_call (codeAny_mono (F.run A' X.stack s H ⟨us,[]⟩ us vs Q E0 hr {I.Iq with frames:=by rw[hf];exact I.ok.frames} Kt r h) fun r s' hq=>?_);cases r with
 |error e=>obtain⟨_,_,_,_,_,_,_,_,_,_,_,_,_,h⟩:=hq;exact h.elim
 |ok fl=>
  cases fl with
  |ret u=>exact I.after hq
  |next=>exact False.elim hq
  |brk=>exact False.elim hq
  |cont=>exact False.elim hq
end L2
namespace QF
open PySem L2 PySem.Spec PyProof.Rows PySem.W PySem.Calls
def KQ(H1:Hp)(w:Kw):VK:=fun y H2=>ax H1 H2∧∃k t,y= .ref k∧H2 k=some (.tup [.int w.1, .ref t])∧H2 t=some (.tup [.int w.2.1, .int w.2.2])
def kl(ws:List Kw)(i j:Nat):Bool:=X' (ws.getD i (0,(0,0))) (ws.getD j (0,(0,0)))
def Ks(H:Hp)(ws:List Kw)(as:List Addr):Prop:=∀j k,as[j]?=some k→∃t,H k=some (.tup [.int (ws.getD j (0,(0,0))).1, .ref t])∧H t=some (.tup [.int (ws.getD j (0,(0,0))).2.1, .int (ws.getD j (0,(0,0))).2.2])
theorem Ks.key{X:Cx}{pins:List (Addr×Obj)}{σ:L2.St}{H:Hp}{s:Shared}{ws:List Kw}{as:List Addr}{j:Nat}{k:Addr}(I:Inv X pins σ H s)(h:Ks H ws as)(e:as[j]?=some k):uD s.heap k (ws.getD j (0,(0,0))):=by
 obtain⟨t,h1,h2⟩:=h j k e;obtain⟨its,r,⟨o,e1,e2,n,e3⟩,_⟩:=I.tuple (xs:=[.int (ws.getD j (0,(0,0))).1, .ref t]) (.of h1);obtain⟨its',r',⟨o',g1,g2,n',g3⟩,_⟩:=I.tuple (xs:=[.int (ws.getD j (0,(0,0))).2.1, .int (ws.getD j (0,(0,0))).2.2]) (.of h2);cases r with
 |cons a b=>cases b with
  |cons c d=>
   cases d;obtain⟨ta,rfl⟩:=a;cases c;cases r' with
   |cons a' b'=>cases b' with
    |cons c' d'=>
     cases d';obtain⟨U7,rfl⟩:=a';obtain⟨U8,rfl⟩:=c';exact⟨o,ta,t,n,e1,e2,e3,o',U7,U8,n',g1,g2,g3⟩
theorem Yp{h:Heap}:∀{its:List Value},(∀v∈its,∃x p,v= .ref x∧uD h x p)→∃fs,KatTups h its fs∧fs.length=its.length∧∀f∈fs,∃i t,f=Value.int i t
 |[],_=>⟨[], .nil,rfl,fun f hf=>by cases hf⟩
 |v::r,hv=>by
  obtain⟨x,p,rfl,o,t,u,n,h1,h2,h3,_⟩:=hv v (List.mem_cons_self ..);obtain⟨fs,k1,k2,k3⟩:=Yp (its:=r) fun v Lx=>hv v (List.mem_cons_of_mem _ Lx)
  refine⟨.int p.1 t::fs, .cons h1 h2 h3 rfl k1,by simp[k2],fun f hf=>?_⟩;rcases List.mem_cons.mp hf with rfl|hf
  ·exact⟨_,_,rfl⟩
  ·exact k3 f hf
theorem DU{prog:Program}{w:World}{A:Around}{E:Value→Shared→Prop}{s:Shared}{its:List Value}{Q:SortKind→Shared→Prop}(d6:0<its.length)(hv:∀v∈its,∃x p,v= .ref x∧uD s.heap x p)(h:Q (tuples' true) s):wpAny (model prog w) A (keyKind' its.toArray) Q E s:=by
 obtain⟨fs,k1,k2,k3⟩:=Yp hv;refine kat_kind (T:= .type "int") k1 XQ (fun v hv=>?_) (XU) h;obtain⟨i,t,rfl⟩:=k3 v hv;exact .now
section
variable{X:Cx}{cm:Bool}{k:Nat}{f:Addr}{fd:FuncData}{ps:List Str}{sp:Sp}{A':Around}{pins:List (Addr×Obj)}{σ:L2.St}{H:Hp}{s:Shared}{E:Value→Shared→Prop}{a kS:Addr}{vs:List Value}{xs:List V}{ws:List Kw}{e1:Nat}{P:PySem.Fin→Shared→Prop}
theorem DV(hu:A'.units+1<cLine)(I:Inv X pins σ H s){kA:Array Value}{e:Nat}{as:List Addr}(hk:s.heap.get? kS=some (seqObj "list" kA e))(ha:s.heap.get? a=some (seqObj "list" #[] e1))(fk:gS X pins H kS)(fa:gS X pins H a)(d6:kS≠a)
  (ek:kA.toList=as.map Value.ref) (el:as.length=vs.length) (K:Ks H ws as) (r:Vals xs vs) (hlen:ws.length=vs.length) (nd:ws.Nodup) (DP:vs.length<10000)
  (h:∀p s',wF vs.length p→Sd (kl ws) p vs.length→Inv X pins σ (upd H a (.lst (p.toList.map fun i=>xs.getD i .cJ))) s'→P (.done (.ret .none)) s'):
  wpAny (model X.prog X.w) A' (ksk_end a false vs.toArray e1 (.ref kS) kA) P E s:=by
 have U9:kA=(as.map Value.ref).toArray:=by apply Array.toList_inj.mp;simpa using ek
 subst U9;have hl:(as.map Value.ref).length=vs.length:=by rw[List.length_map];exact el
 have key:∀i,i<vs.length→∃x,(as.map Value.ref).getD i Value.none= .ref x∧uD s.heap x (ws.getD i (0,(0,0))):=fun i hi=>by
  have hx:as[i]?=some as[i]:=List.getElem?_eq_getElem XR;exact⟨as[i],by simp[show i<as.length by lia],K.key I hx⟩
 have L:YA vs.length (kl ws):=by
  refine⟨fun i j k _ _ _ a b=>JL a b,fun i j _ _ a=>JM a,fun i j hi hj d6=>FU fun e=>d6 ?_⟩;have e:ws[i]?=ws[j]?:=by
   rw[List.getElem?_eq_getElem XR,List.getElem?_eq_getElem XR];simpa[show i<ws.length by lia,show j<ws.length by lia]using e
  exact(List.getElem?_inj XR nd).mp e
 have tail:∀(st:SortSt)(p:Array Nat),wF vs.length p→Sd (kl ws) p vs.length→(arrOf st).map (·.2)=List.toArray (p.toList.map fun i=>vs.getD i Value.none)→failedOf st=none→wpAny (model X.prog X.w) A' (ksk_tail a false e1 (.ref kS) st) P E s:=fun st p hp hs hm hf=>by
  have hsz:(List.toArray (p.toList.map fun i=>vs.getD i Value.none)).size=vs.length:=by rw[List.size_toArray,List.length_map,Array.length_toList,hp.size]
  have s1:=Heap.SameBut.update s.heap kS (Obj.mapSeq fun _=>(#[]:Array Value));have X_:(s.heap.update kS (Obj.mapSeq fun _=>(#[]:Array Value))).get? a=some (seqObj "list" #[] e1):=(s1.2 a (Ne.symm d6)).trans ha;have s2:=Heap.SameBut.update (s.heap.update kS (Obj.mapSeq fun _=>(#[]:Array Value))) a (Obj.mapSeq fun _=>List.toArray (p.toList.map fun i=>vs.getD i Value.none));obtain⟨c2,u7⟩:∃c2,((s.heap.update kS (Obj.mapSeq fun _=>(#[]:Array Value))).update a (Obj.mapSeq fun _=>List.toArray (p.toList.map fun i=>vs.getD i Value.none))).get? a=some (seqObj "list" (List.toArray (p.toList.map fun i=>vs.getD i Value.none)) c2):=⟨_,get?_update_seq X_ fun _=>List.toArray (p.toList.map fun i=>vs.getD i Value.none)⟩
  unfold ksk_tail
  try dsimp only
  simp only[Bool.false_eq_true,if_false];rw[hm];refine wpAny_bind (listUpdate_at hk rfl (wpAny_bind (wpAny_letGo ?_)) (by rw[List.size_toArray,hl,sizeLine_eq];lia) (Nat.zero_le _));refine wpAny_bind (seqEpoch_at (s:={s with heap:=s.heap.update kS (Obj.mapSeq fun _=>(#[]:Array Value))}) X_ rfl (wpAny_bind (listUpdate_at (s:={s with heap:=s.heap.update kS (Obj.mapSeq fun _=>(#[]:Array Value))}) X_ rfl ?_ (Nat.zero_le _) (Nat.le_trans (Nat.le_of_eq hsz) (by rw[sizeLine_eq];lia)))));rw[hf];simp only[bne_self_eq_false,Bool.false_eq_true,if_false];have hr:=r.length;have mem:∀i∈p.toList,i<vs.length:=fun i hi=>by
   have:=hp.mem_iff.mp hi;simpa using this
  have rel:Vals (p.toList.map fun i=>xs.getD i .cJ) (p.toList.map fun i=>vs.getD i Value.none):=Yw fun i hi=>by
   have hi:=mem i hi;obtain⟨v,h1,h2⟩:=r.get (i:=i) (x:=xs[i]) (by simp[show i<xs.length by lia]);have e1:xs.getD i .cJ=xs[i]:=by simp[show i<xs.length by lia]
   have e2:vs.getD i .none=v:=by simp[h1]
   rw[e1,e2];exact h2
  refine wpAny_pure (h p _ hp hs (I.Ac (t':=s.toks) (fp:=[kS,a]) (fun b hb=>?_) fa (fun b o hb e=>?_) ⟨by rw[List.length_map,Array.length_toList,hp.size,sizeLine_eq];lia,_,c2,rel,u7⟩))
  ·simp only[List.mem_cons,List.mem_singleton,List.not_mem_nil,or_false]at hb;rcases hb with rfl|rfl
   ·exact fk
   ·exact fa
  ·simp only[List.mem_cons,List.not_mem_nil,or_false,not_or]at hb;exact(s2.2 b hb.2).trans ((s1.2 b hb.1).trans e)
 unfold ksk_end
 try dsimp only
 simp only[Bool.false_eq_true,if_false];by_cases h2:2≤vs.length
 ·have ub:¬vs.toArray.size<2:=by rw[List.size_toArray];lia
  rw[XE ub,XE ub];refine wpAny_bind (wpAny_mono (DU (Q:=fun N7 s'=>N7=tuples' true∧s'=s) (E:=E) (its:=as.map Value.ref) (by lia) (fun v hv=>?_) ⟨rfl,rfl⟩) ?_ fun _ _ x=>x)
  ·obtain⟨i,hi,rfl⟩:=List.mem_iff_getElem.mp hv;obtain⟨x,h3,h5⟩:=key i XR;exact⟨x,_,by rw[←h3];simp[show i<as.length by simpa using hi],h5⟩
  rintro N7 s0 ⟨U_,U'⟩;rw[U_,U'];have Mz:(as.map Value.ref).Nodup:=by
   refine List.pairwise_iff_getElem.mpr fun i j hi hj sX e=>?_
   have Y3:i<as.length:=by simpa using hi
   have B_:j<as.length:=by simpa using hj
   have e:as[i]=as[j]:=by simpa using e
   obtain⟨t1,a1,a2⟩:=K i as[i] (List.getElem?_eq_getElem Y3);obtain⟨t2,b1,b2⟩:=K j as[j] (List.getElem?_eq_getElem B_);rw[←e,a1]at b1;have h1:=HO.tup.inj (XM b1);simp only[List.cons.injEq,V.int.injEq,V.ref.injEq,and_true]at h1;rw[←h1.2,a2]at b2;have h2:=HO.tup.inj (XM b2);simp only[List.cons.injEq,V.int.injEq,and_true]at h2;have e9:ws.getD i (0,(0,0))=ws.getD j (0,(0,0)):=Prod.ext h1.1 (Prod.ext h2.1 h2.2);have g1:ws[i]?=some (ws.getD i (0,(0,0))):=by simp[show i<ws.length by lia]
   have g2:ws[j]?=some (ws.getD j (0,(0,0))):=by simp[show j<ws.length by lia]
   have:=(List.getElem?_inj XR nd).mp (g1.trans (by rw[e9];exact g2.symm))
   lia
  refine wpAny_bind (wpAny_mono (Aw (lt:=kl ws) hl XR L Mz fun i j hi hj C hC=>?_) ?_ fun _ _ e=>e)
  ·obtain⟨x,h3,h5⟩:=key i hi;obtain⟨y,g3,g5⟩:=key j hj;rw[h3,g3];exact JN hu h5 g5 hC
  rintro⟨⟨⟩,aP⟩ s' ⟨p,Qv,hp,hs,Qt,hf⟩;rw[Qv];exact tail aP p hp hs (kat_snds hl Qt) hf
 ·have ub:vs.toArray.size<2:=by rw[List.size_toArray];lia
  rw[XH ub,XH ub];refine wpAny_bind (wpAny_pure (wpAny_bind (wpAny_pure ?_)));have hp:wF vs.length (List.toArray (List.range vs.length)):=by unfold wF;simp
  refine tail _ _ hp (fun i j sX hj=>by lia) ?_ rfl;show((as.map Value.ref).toArray.zip vs.toArray).map (·.2)=_;apply Array.toList_inj.mp;rw[Array.toList_map,Array.toList_zip];refine(List.map_snd_zip (by simp;lia)).trans ?_
  match vs,h2 with
  |[],_=>rfl
  |[x],_=>rfl
  |x::y::r,h=>simp at h
theorem By(F:aZ X.prog X.w X.K X.mg X.base (de X.prog X.w) cm k f fd ps sp)(hr:eC cm k A')(hf:A'.frames=X.A.frames)(hb:Binds X.K fd ps [])(hu:A'.units+1<cLine)(I:Inv X pins σ H s)(hk:s.heap.get? kS=some (seqObj "list" #[] 0))(ha:s.heap.get? a=some (seqObj "list" #[] e1))
  (fk:gS X pins H kS) (fa:gS X pins H a) (d6:kS≠a) (r:Vals xs vs) (hlen:ws.length=vs.length) (nd:ws.Nodup) (DP:vs.length<10000)
  (nc:∀i v H1,xs[i]?=some v→ax H H1→sp [v] H1 (KQ H1 (ws.getD i (0,(0,0)))) E0)
  (h:∀p H' s',wF vs.length p→Sd (kl ws) p vs.length→ax H H'→H' a=none→Inv X pins σ (upd H' a (.lst (p.toList.map fun i=>xs.getD i .cJ))) s'→P (.done (.ret .none)) s'):
  wpAny (model X.prog X.w) A' (ksk_rest a (.ref f) false vs.toArray e1 (.ref kS)) P E s:=by
 have KC:=r.length;unfold ksk_rest;refine wpAny_bind (wpAny_rule ?_);first
  |rw[List.forIn_toArray]
  |(rw[←Array.forIn_toList];simp only[List.toList_toArray])
 refine wpAny_bind (ksk_fold (fun i s'=>∃(H':Hp)(as:List Addr)(e:Nat),Inv X pins σ H' s'∧ax H H'∧s'.heap.get? kS=some (seqObj "list" (as.map Value.ref).toArray e)∧s'.heap.get? a=some (seqObj "list" #[] e1)∧gS X pins H' kS∧gS X pins H' a∧as.length=i∧Ks H' ws as) vs 0 s
  ⟨H,[],0,I,fun _ _ z=>z,hk,ha,fk,fa,rfl,fun j k e=>by simp at e⟩ ?_ ?_)
 ·rintro j x s' hx ⟨H',as,e,I',sm,Dn,MA,N8,MB,el,K⟩;simp only[Nat.zero_add]at el⊢;have hj:j<vs.length:=(Xv hx).1;obtain⟨u,R_,N9⟩:=r.get (i:=j) (x:=xs[j]) (by simp[show j<xs.length by omega]);rw[hx]at R_;cases R_;have Ip:=I'.pinned (fp:=[kS,a]) (fun b hb=>by
   simp only[List.mem_cons,List.not_mem_nil,or_false]at hb;rcases hb with rfl|rfl
   ·exact N8
   ·exact MB) (fun b hb=>by
   simp only[List.mem_cons,List.not_mem_nil,or_false]at hb;rcases hb with rfl|rfl
   ·exact⟨_,Dn,fun v z=>nomatch z⟩
   ·exact⟨_,MA,fun v z=>nomatch z⟩)
  refine wpAny_bind (wpAny_attempt (wpAny_mono (JO F hr hf hb Ip (.cons N9 .nil) (nc j xs[j] H' (by simp[show j<xs.length by omega]) sm)) (fun v uP he=>?_) fun _ _ z=>z));obtain⟨y,H2,I2,ry,Qw,kk,t,rfl,k1,k2⟩:=he;cases ry;dsimp only;have pk:=I2.pin (kS,_) (List.mem_append_right _ (List.mem_append_right _ (gj XN Dn)));have pa:=I2.pin (a,_) (List.mem_append_right _ (List.mem_append_right _ (gj XN MA)));have I3:=I2.kF;have s1:=Heap.SameBut.update uP.heap kS (Obj.mapSeq (·.push (.ref kk)));obtain⟨c2,u7⟩:∃c2,(uP.heap.update kS (Obj.mapSeq (·.push (.ref kk)))).get? kS=some (seqObj "list" ((as.map Value.ref).toArray.push (.ref kk)) c2):=⟨_,get?_update_seq pk.1 (·.push (.ref kk))⟩
  refine wpAny_bind (listUpdate_at pk.1 rfl ?_ (by simp;rw[sizeLine_eq];omega) (by simp;rw[sizeLine_eq];omega));have KD:gS X pins H2 kS:=⟨pk.2.1,N8.2⟩
  have Va:gS X pins H2 a:=⟨pa.2.1,MB.2⟩
  refine wpAny_pure ⟨rfl,H2,as++[kk],c2,I3.turned (t':=uP.toks) (it:=kS) (fun b o hb e=>(s1.2 b hb).trans e) KD.1 KD.2.1 KD.2.2.2.1 KD.2.2.2.2.1 KD.2.2.2.2.2,fun b o z=>Qw b o (sm b o z),?_,(s1.2 a (Ne.symm d6)).trans pa.1,KD,Va,by simp[el],fun i k ei=>?_⟩
  ·show(uP.heap.update kS (Obj.mapSeq (·.push (.ref kk)))).get? kS=_;rw[u7]
   congr 2
   simp
  ·by_cases hi:i<as.length
   ·rw[List.getElem?_append_left hi]at ei;obtain⟨t',g1,g2⟩:=K i k ei;exact⟨t',Qw _ _ g1,Qw _ _ g2⟩
   ·rw[List.getElem?_append_right XQ]at ei;have Vc:i-as.length=0:=by
     have:=(Xv ei).1;simp at this;omega
    rw[Vc]at ei;have:kk=k:=by simpa using ei
    subst this;have:i=j:=XT;subst this;exact⟨t,k1,k2⟩
 ·rintro s' ⟨H',as,e,I',sm,Dn,MA,N8,MB,el,K⟩;refine wpAny_bind (listItems_at Dn rfl ?_);exact DV hu I' Dn MA N8 MB d6 XN (XT) K r hlen nd DP fun p s2 hp hs I2=>h p H' s2 hp hs sm MB.1 I2
theorem Bz{n:Nat}(F:aZ X.prog X.w X.K X.mg X.base (de X.prog X.w) cm k f fd ps sp)(hr:eC cm k A')(hf:A'.frames=X.A.frames)(hb:Binds X.K fd ps [])(hu:A'.units+1<cLine)(I:Inv X pins σ H s)(ho:s.heap.get? a=some (seqObj "list" vs.toArray n))
  (fa:gS X pins H a) (r:Vals xs vs) (hlen:ws.length=vs.length) (nd:ws.Nodup) (DP:vs.length<10000)
  (nc:∀i v H1,xs[i]?=some v→ax H H1→sp [v] H1 (KQ H1 (ws.getD i (0,(0,0)))) E0)
  (h:∀p H' s',wF vs.length p→Sd (kl ws) p vs.length→ax H H'→H' a=none→Inv X pins σ (upd H' a (.lst (p.toList.map fun i=>xs.getD i .cJ))) s'→P (.done (.ret .none)) s'):
  wpAny (model X.prog X.w) A' (ksk_tree a (.ref f) false) P E s:=by
 have s1:=Heap.SameBut.update s.heap a (Obj.mapSeq fun _=>(#[]:Array Value));obtain⟨e1,FR⟩:∃e1,(s.heap.update a (Obj.mapSeq fun _=>(#[]:Array Value))).get? a=some (seqObj "list" #[] e1):=⟨_,get?_update_seq ho fun _=>#[]⟩
 have I1:Inv X pins σ H {s with heap:=s.heap.update a (Obj.mapSeq fun _=>(#[]:Array Value))}:=I.turned (t':=s.toks) (it:=a) (fun b o hb e=>(s1.2 b hb).trans e) fa.1 fa.2.1 fa.2.2.2.1 fa.2.2.2.2.1 fa.2.2.2.2.2;unfold ksk_tree;refine wpAny_bind (listItems_at ho rfl (wpAny_bind (listUpdate_at ho rfl ?_ (by rw[List.size_toArray,sizeLine_eq];omega) (Nat.zero_le _))));refine wpAny_bind (seqEpoch_at FR rfl (wpAny_bind (wpAny_newTuple (wpAny_bind (wpAny_newList (wpAny_holding ?_) (Nat.zero_le _))) (by show vs.length≤_;rw[sizeLine_eq];omega))));have I2:Inv X pins σ H {s with heap:=(s.heap.update a (Obj.mapSeq fun _=>(#[]:Array Value))).push (seqObj "tuple" vs.toArray 0)}:=I1.kept (t':=s.toks) fun b o e=>XD e
 have I3:Inv X pins σ H {s with heap:=((s.heap.update a (Obj.mapSeq fun _=>(#[]:Array Value))).push (seqObj "tuple" vs.toArray 0)).push (seqObj "list" #[] 0)}:=I2.kept (t':=s.toks) fun b o e=>XD e
 have fk:=I2.s_ (Nat.le_refl _) (I2.bR.fresh (Nat.le_refl _));have Y':=Heap.get?_push_of_some (seqObj "tuple" vs.toArray 0) FR;exact By F hr hf hb hu I3 (Heap.get?_push_size _ rfl) (XD Y') fk fa (Nat.ne_of_gt (Heap.lt_size Y')) r hlen nd DP nc h
theorem ZU{l:Addr}{Q:VK}(F:aZ X.prog X.w X.K X.mg X.base (de X.prog X.w) cm k f fd ps sp)(hr:eC cm (k+1) X.A)(hb:Binds X.K fd ps [])(I:Inv X pins σ H s)(hq:gZ X.K H l xs)(hlen:ws.length=xs.length)(nd:ws.Nodup)(DP:xs.length<10000)
  (nc:∀i v H1,xs[i]?=some v→ax H H1→sp [v] H1 (KQ H1 (ws.getD i (0,(0,0)))) E0)
  (h:∀p H' D,wF xs.length p→Sd (kl ws) p xs.length→ax H H'→H D=none→H' D=none→Q (.ref D) (upd H' D (.lst (p.toList.map fun i=>xs.getD i .cJ)))):
  wpAny (model X.prog X.w) X.A (call (.builtin "sorted") [.ref l] [(Str.ofString "key", .ref f)]) (EP X pins σ Q) E s:=by
 obtain⟨vs,r,pl,hz⟩:=I.list hq;have KC:=r.length;refine call_function_entry_kw kind_sorted plain_sorted entry_sorted (ksk_s1 _ _) ?_;unfold Builtin.«sorted»;refine wpAny_bind (m:=checkCount "sorted" 1 1 _) (wpAny_pure (wpAny_bind (collect_list pl.isList (wpAny_bind (wpAny_newList ?_ (by rw[sizeLine_eq];omega))) (by rw[sizeLine_eq];omega))));generalize hh:((s.heap.push (seqObj "list" #[] 0)).update s.heap.objs.size (Obj.mapSeq (·++vs.toArray)))=h1;have hsz:h1.objs.size=s.heap.objs.size+1:=by rw[←hh,Heap.size_update,size_push']
 have keep:∀b o,s.heap.get? b=some o→(h1.push (seqObj "list" vs.toArray 0)).get? b=some o:=fun b o q=>by
  have gK:b<s.heap.objs.size:=Heap.lt_size q;rw[Heap.get?_push_ne _ _ _ (by rw[hsz];exact Nat.ne_of_lt (Nat.lt_succ_of_lt gK)),←hh,Heap.get?_update_ne _ _ _ _ (Nat.ne_of_lt gK),Heap.get?_push_ne _ _ _ (Nat.ne_of_lt gK)];exact q
 have Gv:(h1.push (seqObj "list" vs.toArray 0)).get? h1.objs.size=some (seqObj "list" vs.toArray 0):=Heap.get?_push_size _ rfl;have hD:s.heap.objs.size≤h1.objs.size:=by rw[hsz];exact Nat.le_succ _
 have R':H h1.objs.size=none:=I.bR.fresh hD;have I1:Inv X pins σ H {s with heap:=h1.push (seqObj "list" vs.toArray 0)}:=I.kept (t':=s.toks) keep;show wpAny _ _ _ _ _ {s with heap:=h1.push (seqObj "list" vs.toArray 0)};refine wpAny_bind (wpAny_holding (wpAny_call_entry_kw slot_list_sort ⟨_,Gv,rfl⟩ entry_list_sort ?_ (ksk_l1 _ _)));show wpAny (model X.prog X.w) X.A.in1.in1 (Builtin.«list.sort» ⟨[.ref h1.objs.size],[(Str.ofString "key", .ref f)]⟩) _ _ _;rw[ksk_t1];have un:=hr.un;refine Bz F ⟨hr.hd,by have:=hr.dp;show X.A.depth+3*k+5<_;omega,by show X.A.units+1+1+16*k+200<_;omega⟩ rfl hb (by show X.A.units+1+1+1<_;omega) I1 Gv (I.s_ hD R') r XQ nd XQ nc fun p H' s' hp hs sm hn I'=>⟨_,rfl,wpAny_pure ⟨_,rfl, .ref h1.objs.size,_,I',rfl,?_⟩⟩
 rw[←KC]at hp hs;exact h p H' _ hp hs sm R' hn
end
inductive DW(K:Frag)(sp:Sp)(x:V)(H:Hp)(Q:VK):Prop
 |mk (l:Addr) (xs:List V) (ws:List Kw) (_:x= .ref l) (_:gZ K H l xs) (_:ws.length=xs.length) (_:ws.Nodup) (_:xs.length<10000) (_:∀i v H1,xs[i]?=some v→ax H H1→sp [v] H1 (KQ H1 (ws.getD i (0,(0,0)))) E0)
  (_:∀p H' D,wF xs.length p→Sd (kl ws) p xs.length→ax H H'→H D=none→H' D=none→Q (.ref D) (upd H' D (.lst (p.toList.map fun i=>xs.getD i .cJ)))):DW K sp x H Q
def JP(K:Frag)(sp:Sp)(ta:TE):TE:=fun σ H Q=>ta σ H fun x H1=>DW K sp x H1 Q
theorem DX{X:Cx}(K:Frag){cm:Bool}{k:Nat}{x:Str}{ps:List Str}{sp:Sp}{e:Expr}{ta:TE}{p pos kp fp:Pos}(D:bN X.prog X.w X.K X.mg X.base cm k x ps sp)(hr:eC cm (k+1) X.A)(he:PE X e ta)(hg:Gl X "sorted")(hm:X.mg "sorted"=none)
  (Ve:Gl X x:=by rfl) (uO:(x==("__debug__":Str))=false:=by decide) (hs:starEach [e] X.env=[(false,eval e X.env)]:=by rfl) (hK:X.K=K:=by rfl):
  PE X (.Call (.Name "sorted" p) [e] [⟨some "key", .Name x fp,kp⟩] pos) (JP K sp ta):=by
 subst hK;obtain⟨f,fd,ok,Vf,hk,hb⟩:=D;intro pins s σ H Q I h;refine wpAny_Call_Name_kw (jR I hg hm (PyProof.Rows.Boot.«sorted») ?_ (XU) (XU));rw[hs];refine callWith_builtin_kwB (first:=[]) rfl rfl (evalArgs_kwB rfl ?_);refine Calls.spliced_cons ?_;show wpAny _ _ (eval e X.env) _ _ s;refine cy (he pins s σ H _ I h) fun v s1 ⟨y,H1,I1,r1,q1⟩=>Calls.spliced_nil ?_
 obtain⟨l,xs,ws,rfl,hq,hlen,nd,DP,nc,q⟩:=q1;cases r1;refine kws_cons ?_;show wpAny _ _ (eval (.Name x fp) X.env) _ _ s1;refine cy (Z7 (v:= .ref f) Ve Vf rfl uO pins s1 σ H1 (fun y H2=>y= .ref f∧H2=H1) I1 ⟨rfl,rfl⟩) fun u s2 ⟨y,H2,I2,r2,e1,e2⟩=>?_
 subst e1 e2;cases r2;refine kws_nil ?_;exact ZU ok hr hb I2 hq hlen nd DP nc q
end QF
namespace L2
open PySem PySem.Spec PyProof.Rows PySem.W PySem.Calls
def KG(hi:Int)(n:Nat):It:=⟨fun i _=>i<n,fun i H x H'=>H'=H∧x= .int (hi-i),fun i _=>n≤i⟩
theorem BB{P:Program}{w:World}{K:PySem.W.Frag}{tg:Expr}(it:Addr)(hi:Int)(n:Nat):Turn P w K tg (KG hi n) [it] it (fun i h=>IsRangeIter h it (hi+(i:Nat)*(-1)) ((n:Int)-(i:Nat)) (-1)) where
 mem:=XX
 obj:=fun i h st b hb=>by
  have e:b=it:=by simpa using hb
  subst e;exact⟨_,st,fun v z=>by
   have z':Data.fields _=Data.cell v:=z;cases z'⟩
 keep:=fun i h h' st k=>k it (XX) _ st
 item:=by
  intro X hP hw hK hc i pins s σ H E I hf st hg;subst hP hw hK;obtain⟨f0,f1,f2,f3,f4,f5⟩:=hf it (XX);have W:=Walks.range (prog:=X.prog) (w:=X.w) (I.ok.hd hc) it hi (-1) n;refine W.item i s _ _ hg st fun v h' tk hv aP kk=>?_
  obtain⟨t,rfl⟩:=hv;have I1:Inv X pins σ H {s with heap:=h',toks:=tk}:=I.turned (fun b o hb e=>kk b o (by simpa using hb) e) f0 f1 f3 f4 f5;refine⟨_,rfl,wQ (s:={s with heap:=h',toks:=tk}) (n:="range_iterator") aP rfl rfl (XU) ⟨.int (hi-i),H,I1,⟨t,?_⟩,⟨rfl,rfl⟩,aP,fun b hb=>(hf b hb).1⟩⟩
  congr 1
  omega
 done:=by
  intro X hP hw hK hc i pins s σ H E I hf st hg;subst hP hw hK;obtain⟨f0,f1,f2,f3,f4,f5⟩:=hf it (XX);exact wpAny_pyNext_range_end (I.ok.hd hc) st (by have:n≤i:=hg;omega) fun h' eb=>⟨rfl,I.turned (t':=s.toks) (fun b o hb e=>eb b o hb e) f0 f1 f3 f4 f5⟩
 self:=fun _ _ _ _ _ st h=>wpAny_pyIter_rangeiter st h
theorem rangeSize_down(a b:Int):Builtin.Range.rangeSize a b (-1)=if a>b then a-b else 0:=by
 unfold Builtin.Range.rangeSize;rw[if_neg (XU)];split<;>simp
theorem small_down{a b:Int}(ha:-(2^62)≤a)(MA:a<2^62)(hb:-(2^62)≤b)(Kt:b<2^62):Builtin.Range.small a b (-1)=true:=by
 unfold Builtin.Range.small;rw[rangeSize_down];simp only[Builtin.Range.rangeFitsLong,Bool.and_eq_true,Bool.or_eq_true,decide_eq_true_eq,beq_iff_eq,show ¬(-1:Int)>0 by decide,if_false];split<;>omega
section
variable{X:Cx}{tg:Expr}
theorem FV{pins:List (Addr×Obj)}{σ:L2.St}{H:Hp}{s:Shared}{R:It→Hp→Prop}{E:Value→Shared→Prop}{hi lo:Int}{t u v:Tok}{tk:Nat}(I:Inv X pins σ H s)(h1:-(2^62)≤hi)(h2:hi<2^62)(h3:-(2^62)≤lo)(h4:lo<2^62)
  (q:R (KG hi (hi-lo).toNat) H):wpAny (model X.prog X.w) X.A (pyIter (.ref s.heap.objs.size)) (O3 X pins σ tg R) E {s with heap:=s.heap.push {cls:= .type "range",data:= .fields #[.int hi t, .int lo u, .int (-1) v]},toks:=tk}:=by
 refine wpAny_pyIter_range (IsRange.new ..) (small_down h1 h2 h3 h4) ?_;have I1:Inv X pins σ H {s with heap:=s.heap.push {cls:= .type "range",data:= .fields #[.int hi t, .int lo u, .int (-1) v]},toks:=tk}:=I.kept fun b o e=>XD e
 refine⟨(s.heap.push {cls:= .type "range",data:= .fields #[.int hi t, .int lo u, .int (-1) v]}).objs.size,[(s.heap.push {cls:= .type "range",data:= .fields #[.int hi t, .int lo u, .int (-1) v]}).objs.size],_,_,H,rfl,
  I1.kept (t':=tk) fun b o e=>XD e,BB _ hi (hi-lo).toNat,?_,fun b hb=>?_,q⟩
 ·have e1:hi+((0:Nat):Int)*(-1)=hi:=XX;have e2:(((hi-lo).toNat:Nat):Int)-((0:Nat):Int)=Builtin.Range.rangeSize hi lo (-1):=by rw[rangeSize_down];split<;>omega
  show IsRangeIter _ _ (hi+((0:Nat):Int)*(-1)) ((((hi-lo).toNat:Nat):Int)-((0:Nat):Int)) (-1);rw[e1,e2];exact Heap.get?_push_size _ rfl
 ·have e:b=(s.heap.push {cls:= .type "range",data:= .fields #[.int hi t, .int lo u, .int (-1) v]}).objs.size:=by simpa using hb
  subst e;exact I1.s_ (Nat.le_refl _) (I1.bR.fresh (Nat.le_refl _))
def MD(ta:TA):TI:=fun σ H R=>ta σ H fun vs H1=>∃i j:Int,vs=[.int i, .int j, .int (-1)]∧(-(2^30)≤i∧i<2^30∧-(2^30)≤j∧j<2^30)∧R (KG i (i-j).toNat) H1
theorem uE{a b c:Expr}{ta:TA}{p pos:Pos}(hg:Gl X "range")(hm:X.mg "range"=none)(ha:PA X [a,b,c] ta)(hs:starEach [a,b,c] X.env=[(false,eval a X.env),(false,eval b X.env),(false,eval c X.env)]:=by rfl)(Ex:starEach [b,c] X.env=[(false,eval b X.env),(false,eval c X.env)]:=by rfl):
  PI X tg (.Call (.Name "range" p) [a,b,c] [] pos) (MD ta):=by
 intro pins s σ H R I h;refine Call_ (jR I hg hm boot_range (PyProof.Rows.callWith_type1 (cy (ha pos pins s σ H _ I h) fun us s1 ⟨vs,H1,I1,r1,q1⟩=>?_) (by rw[hs,Ex]) (by rw[Ex];rfl)));obtain⟨i,j,e,⟨q1,q2,q3,q4⟩,q⟩:=q1;subst e;cases r1 with
 |cons r rr=>
  cases rr with
  |cons r' rr=>
   cases rr with
   |cons r2 rr=>
    cases rr;obtain⟨t,rfl⟩:=r;obtain⟨t',rfl⟩:=r';obtain⟨t2,rfl⟩:=r2;exact call_range_3 (XU) (FV I1 XQ (XT) (XT) (XT) q) (Or.inl (PyProof.noPylong_small XQ))
theorem xA{hi:Int}{n:Nat}{g:TG}{tb:TS}{D:Ends}{σ:L2.St}{H:Hp}(Pv:Nat→L2.St→Hp→Prop)(h0:Pv 0 σ H)
  (hs:∀i σ H,i<n→Pv i σ H→g (.int (hi-i)) σ H fun fI H2=>tb {D with nx:=Pv (i+1),ct:=Pv (i+1),bk:=D.nx} fI H2) (hd:∀σ H,Pv n σ H→D.nx σ H):
  ∃W:Nat→Nat→L2.St→Hp→Prop,(∃m,W 0 m σ H)∧∀i m σ H,W i m σ H→
   ((KG hi n).stop i H∧D.nx σ H)∨((KG hi n).go i H∧∃N:L2.St→Hp→Prop,(∀bA H',N bA H'→∃m',m'<m∧W (i+1) m' bA H')∧∀x H',(KG hi n).EM i H x H'→g x σ H' fun fI H2=>tb {D with nx:=N,ct:=N,bk:=D.nx} fI H2):=by
 refine⟨fun i m σ H=>m=n-i∧i≤n∧Pv i σ H,⟨n,XX,Nat.zero_le _,h0⟩,?_⟩;rintro i m σ H ⟨rfl,Y3,p⟩;by_cases gK:i<n
 ·refine .inr ⟨gK,Pv (i+1),fun bA H' p'=>⟨n-(i+1),XT,rfl,gK,p'⟩,fun x H' y=>?_⟩;obtain⟨e,y⟩:=y;subst e y;exact hs i σ _ gK p
 ·have e:i=n:=XT;subst e;exact .inl ⟨Nat.le_refl _,hd σ H p⟩
end
theorem BC{d:Addr}{o:Obj}{kvs:List (List Key×V)}{ls:List Str}{js:List Nat}{g:TG}{tt:TT}{te:TE}{σ:L2.St}{H1:Hp}{D:Addr}{Q:VK}(Pv:Nat→List V→L2.St→Hp→Prop)
  (h0:Pv 0 [] (kJ ls js σ) (upd H1 D (.lst []))) (hl:∀i ys σ H,i≤kvs.length→Pv i ys σ H→H d=some (.qS o (.dT kvs)))
  (hs:∀i p ys σ H,kvs[i]?=some p→Pv i ys σ H→g p.2 σ H fun fI H3=>tt fI H3 fun b H4=>if b=true then te fI H4 fun y H5=>H5 D=some (.lst ys)∧ys.length<sizeLine∧Pv (i+1) (ys++[y]) fI (upd H5 D (.lst (ys++[y])))else Pv (i+1) ys fI H4)
  (hd:∀ys σ H,Pv kvs.length ys σ H→Q (.ref D) H):rD (P9 d o kvs) ls js g tt te σ H1 D Q:=
 nB (n:=kvs.length) Pv h0 (fun i ys σ H hi p=>⟨hl i ys σ H (Nat.le_of_lt hi) p,hi⟩) (fun ys σ H p=>⟨hl _ ys σ H (Nat.le_refl _) p,Nat.le_refl _⟩)
  (fun i ys σ H x H2 hi p y=>by
   obtain⟨rfl,q,hq,rfl⟩:=y;exact hs i q ys σ _ hq p) hd
theorem DY{X:Cx}{cm:Bool}{k:Nat}{x:Str}{C:Addr}{ps:List Str}{lu:List V}{sp:Sp}{E:L2.St→XK}{p pos:Pos}(D:l5 X.prog X.w X.K X.mg X.base cm k x C ps lu sp)(hr:eC cm (k+1) X.A)(hx:Passes (de X.prog X.w) X E)(hg:Gl X x:=by rfl)(uO:(x==("__debug__":Str))=false:=by decide):
  PE X (.Call (.Name x p) [] [] pos) (YL C sp lu E Cv):=by
 obtain⟨f,fd,ds,ok,M,hm,hb,hd⟩:=D;exact Cz M ok hr hg hm hb hd hx uO
end L2
namespace QF
open PySem L2
structure pN(H:Hp)(C x dx e b:Addr)(es bs:List Addr)(f:Nat→Nat→Option Int)(o p:Int)(n m:Nat):Prop where
 ob:H x=some (.ins C dx (gf o p e b))
 he:H e=some (.lst (es.map V.ref))
 te:iI H es (dh f o p) n m
 hb:H b=some (.lst (bs.map V.ref))
 tb:iI H bs (Bq f o p) (n+1) (m+1)
theorem pN.keep{H H':Hp}{C x dx e b:Addr}{es bs:List Addr}{f:Nat→Nat→Option Int}{o p:Int}{n m:Nat}(t:pN H C x dx e b es bs f o p n m)(s:ax H H'):pN H' C x dx e b es bs f o p n m:=
 ⟨s _ _ t.ob,s _ _ t.he,t.te.same s,s _ _ t.hb,t.tb.same s⟩
theorem DZ(o p:Int)(e b:Addr):(gf o p e b).lookup ("goes_on":Str)=none:=by kernel_rfl
theorem Ay(o p:Int)(e b:Addr):(gf o p e b).lookup ("crossings_before":Str)=none:=by kernel_rfl
theorem Hh(o p:Int)(e b:Addr):(gf o p e b).lookup ("is_brought_by":Str)=none:=by kernel_rfl
theorem JQ(o p:Int)(e b:Addr):(gf o p e b).lookup ("pair_before":Str)=none:=by kernel_rfl
theorem ME(o p:Int)(e b:Addr):(gf o p e b).lookup ("way_to":Str)=none:=by kernel_rfl
def gh:Option Int→Bool
 |none=>false
 |some b=>decide (0≤b)
def bf(f:Nat→Nat→Option Int)(o p:Int)(i j:Nat):List Pr:=
 (if bq (Bq f o p i (j+1)) o=Bq f o p (i+1) (j+1)then[((i:Int),((j+1:Nat):Int))]else[])++(if bq (Bq f o p (i+1) j) p=Bq f o p (i+1) (j+1)then[(((i+1:Nat):Int),(j:Int))]else[])
def cD(f:Nat→Nat→Option Int)(o p:Int):Nat→Nat→Nat×Nat
 |0,_=>(0,0)
 | _+1,0=>(0,0)
 |i+1,j+1=>if dh f o p i j=Bq f o p (i+1) (j+1)then(i,j)else if bq (Bq f o p i (j+1)) o=Bq f o p (i+1) (j+1)then cD f o p i (j+1)else cD f o p (i+1) j
termination_by i j=>(i,j)
theorem jZ(f:Nat→Nat→Option Int)(o p:Int):∀i j,0<i→0<j→(cD f o p i j).1<i∧(cD f o p i j).2<j∨Bq f o p i j=none
 |0,_,h,_=>absurd h XQ
 | _+1,0,_,h=>absurd h XQ
 |i+1,j+1,_,_=>by
  cases hB:Bq f o p (i+1) (j+1)with
  |none=>exact .inr rfl
  |some v=>
   left
   unfold cD;by_cases h1:dh f o p i j=Bq f o p (i+1) (j+1)
   ·rw[XH h1];exact⟨XX,XX⟩
   ·rw[XE h1];by_cases h2:bq (Bq f o p i (j+1)) o=Bq f o p (i+1) (j+1)
    ·rw[XH h2];have hn:Bq f o p i (j+1)≠none:=fun z=>by rw[z,hB]at h2;simp[bq]at h2
     have hi:0<i:=by
      cases i with
      |zero=>exact absurd (hU f o p (j+1)) hn
      |succ i=>omega
     rcases jZ f o p i (j+1) hi XQ with z|z
     ·exact⟨XT,z.2⟩
     ·exact absurd z hn
    ·rw[XE h2];have hn:Bq f o p (i+1) j≠none:=fun z=>by
      have e:Bq f o p (i+1) (j+1)=nJ [dh f o p i j,bq (Bq f o p i (j+1)) o,bq (Bq f o p (i+1) j) p]:=by
       rw[Bq];rfl
      rw[z]at e;have:bq none p=(none:Option Int):=rfl;rw[this]at e;have key:∀a b:Option Int,nJ [a,b,none]=a∨nJ [a,b,none]=b:=fun a b=>by
       cases a<;>cases b<;>simp[nJ]
       rename_i x y
       by_cases Y1:x≤y
       ·right;omega
       ·left;omega
      rcases key (dh f o p i j) (bq (Bq f o p i (j+1)) o)with k|k
      ·exact h1 (by rw[e,k])
      ·exact h2 (by rw[e,k])
     have hj:0<j:=by
      cases j with
      |zero=>exact absurd (by unfold Bq;rfl) hn
      |succ j=>omega
     rcases jZ f o p (i+1) j XQ hj with z|z
     ·exact⟨z.1,XT⟩
     ·exact absurd z hn
termination_by i j=>(i,j)
def dZ(f:Nat→Nat→Option Int)(o p:Int):Nat→Nat→Nat→List (Nat×Nat)
 |0,i,j=>[(i,j)]
 |k+1,i,j=>if gh (Bq f o p i j)=true then dZ f o p k (cD f o p i j).1 (cD f o p i j).2++[(i,j)]else[(i,j)]
def aN(q:Nat×Nat):Pr:=((q.1:Int),(q.2:Int))
inductive pO(C CT:Addr)(vs:List V)(H:Hp)(Q:VK)(u3:XK):Prop
 |mk (x dx w t:Addr) (c:Case) (as:List Addr) (f:Nat→Nat→Option Int) (n m:Nat) (_:vs=[.ref x, .ref w, .ref t]) (_:H x=some (.ins C dx [])) (_:H dx=some (.own x)) (_:H w=some (.lst (as.map V.ref))) (_:iI H as f n m) (_:Y6 H CT t c) (_:n≤1000) (_:m≤1000) (_:∀H' e b,SameBut x H H'→H' x=some (.ins C dx (gf c.out c.into e b))→Tab H H' e (dh f c.out c.into) n m→(0<n→Tab H H' b (Bq f c.out c.into) (n+1) (m+1))→Q .cJ H'):pO C CT vs H Q u3
inductive vB(C:Addr)(vs:List V)(H:Hp)(Q:VK)(u3:XK):Prop
 |mk (x dx e b:Addr) (es bs:List Addr) (f:Nat→Nat→Option Int) (o p:Int) (n m:Nat) (pr:Addr) (i j:Nat) (_:vs=[.ref x, .ref pr]) (_:pN H C x dx e b es bs f o p n m) (_:H pr=some (.tup [.int i, .int j])) (_:i≤n) (_:j≤m) (_:Q (.bl (gh (Bq f o p i j))) H):vB C vs H Q u3
inductive YV(C:Addr)(vs:List V)(H:Hp)(Q:VK)(u3:XK):Prop
 |mk (x dx e b:Addr) (es bs:List Addr) (f:Nat→Nat→Option Int) (o p:Int) (n m:Nat) (cr pr:Addr) (i j k l:Nat) (_:vs=[.ref x, .ref cr, .ref pr]) (_:pN H C x dx e b es bs f o p n m) (_:H cr=some (.tup [.int i, .int j])) (_:H pr=some (.tup [.int k, .int l])) (_:i≤n) (_:j≤m) (_:k<n) (_:l<m) (_:Q (.bl (decide (dh f o p k l=Bq f o p i j))) H):YV C vs H Q u3
inductive rO(C:Addr)(vs:List V)(H:Hp)(Q:VK)(u3:XK):Prop
 |mk (x dx e b:Addr) (es bs:List Addr) (f:Nat→Nat→Option Int) (o p:Int) (n m:Nat) (cr:Addr) (i j:Nat) (_:vs=[.ref x, .ref cr]) (_:pN H C x dx e b es bs f o p n m) (_:H cr=some (.tup [.int ((i+1:Nat):Int), .int ((j+1:Nat):Int)])) (_:i<n) (_:j<m) (_:∀H' r us,ax H H'→H r=none→H' r=some (.lst us)→eG H' us (bf f o p i j)→Q (.ref r) H'):rO C vs H Q u3
inductive vC(C:Addr)(vs:List V)(H:Hp)(Q:VK)(u3:XK):Prop
 |mk (x dx e b:Addr) (es bs:List Addr) (f:Nat→Nat→Option Int) (o p:Int) (n m:Nat) (pr:Addr) (i j:Nat) (_:vs=[.ref x, .ref pr]) (_:pN H C x dx e b es bs f o p n m) (_:H pr=some (.tup [.int i, .int j])) (_:i≤n) (_:j≤m) (_:Bq f o p i j≠none) (_:∀H' r,ax H H'→H' r=some (.tup (ju (aN (cD f o p i j))))→Q (.ref r) H'):vC C vs H Q u3
inductive YW(C:Addr)(vs:List V)(H:Hp)(Q:VK)(u3:XK):Prop
 |mk (x dx e b:Addr) (es bs:List Addr) (f:Nat→Nat→Option Int) (o p:Int) (n m:Nat) (pr:Addr) (i j:Nat) (_:vs=[.ref x, .ref pr]) (_:pN H C x dx e b es bs f o p n m) (_:H pr=some (.tup [.int i, .int j])) (_:i<n) (_:j<m) (_:n≤1000) (_:∀H' r us,ax H H'→H r=none→H' r=some (.lst us)→eG H' us ((dZ f o p i i j).map aN)→Q (.ref r) H'):YW C vs H Q u3
theorem Vg(a b:Option Int):nJ [a,b,none]=a∨nJ [a,b,none]=b:=by
 cases a<;>cases b<;>simp[nJ]
 rename_i x y
 by_cases Y1:x≤y
 ·right;omega
 ·left;omega
theorem xB{f:Nat→Nat→Option Int}{o p:Int}{i j:Nat}(hB:Bq f o p (i+1) (j+1)≠none)(h1:dh f o p i j≠Bq f o p (i+1) (j+1)):
  ∃i2 j2,(bf f o p i j)[0]?=some (aN (i2+1,j2+1))∧i2≤i∧j2≤j∧i2+j2<i+j∧Bq f o p (i2+1) (j2+1)≠none∧cD f o p (i2+1) (j2+1)=cD f o p (i+1) (j+1):=by
 by_cases h2:bq (Bq f o p i (j+1)) o=Bq f o p (i+1) (j+1)
 ·have hn:Bq f o p i (j+1)≠none:=fun z=>by rw[z]at h2;exact hB h2.symm
  cases i with
  |zero=>exact absurd (hU f o p (j+1)) hn
  |succ i=>
   refine⟨i,j,?_,by lia,by lia,by lia,hn,?_⟩
   ·unfold bf;rw[XH h2];rfl
   ·conv=>rhs;unfold cD
    rw[XE h1,XH h2]
 ·have hn:Bq f o p (i+1) j≠none:=fun z=>by
   have e:Bq f o p (i+1) (j+1)=nJ [dh f o p i j,bq (Bq f o p i (j+1)) o,bq (Bq f o p (i+1) j) p]:=by rw[Bq];rfl
   rw[z,show bq none p=(none:Option Int)from rfl]at e;rcases Vg (dh f o p i j) (bq (Bq f o p i (j+1)) o)with k|k
   ·exact h1 (by rw[e,k])
   ·exact h2 (by rw[e,k])
  have h3:bq (Bq f o p (i+1) j) p=Bq f o p (i+1) (j+1):=by
   have e:Bq f o p (i+1) (j+1)=nJ [dh f o p i j,bq (Bq f o p i (j+1)) o,bq (Bq f o p (i+1) j) p]:=by rw[Bq];rfl
   have key:∀a b c:Option Int,nJ [a,b,c]≠a→nJ [a,b,c]≠b→c=nJ [a,b,c]:=fun a b c=>by
    cases a<;>cases b<;>cases c<;>simp[nJ]<;>lia
   rw[e];exact key _ _ _ (fun z=>h1 (by rw[e];exact z.symm)) (fun z=>h2 (by rw[e];exact z.symm))
  cases j with
  |zero=>exact absurd (by unfold Bq;rfl) hn
  |succ j=>
   refine⟨i,j,?_,by lia,by lia,by lia,hn,?_⟩
   ·unfold bf;rw[XE h2,XH h3];rfl
   ·conv=>rhs;unfold cD
    rw[XE h1,XE h2]
theorem jE{f:Nat→Nat→Option Int}{o p:Int}{i j:Nat}(h:gh (Bq f o p i j)=true):0<i∧0<j∧Bq f o p i j≠none:=by
 have hn:Bq f o p i j≠none:=fun z=>by rw[z]at h;cases h
 refine⟨?_,?_,hn⟩
 ·cases i with
  |zero=>exact absurd (hU f o p j) hn
  |succ i=>omega
 ·cases j with
  |zero=>cases i with
   |zero=>exact absurd (hU f o p 0) hn
   |succ i=>exact absurd (by unfold Bq;rfl) hn
  |succ j=>omega
theorem gu{f:Nat→Nat→Option Int}{o p:Int}{i j:Nat}(h:¬gh (Bq f o p i j)=true):∀k,dZ f o p k i j=[(i,j)]
 |0=>rfl
 |k+1=>by rw[dZ,XE h]
theorem BD(f:Nat→Nat→Option Int)(o p:Int)(i:Nat):∀k k' j,i≤k→i≤k'→dZ f o p k i j=dZ f o p k' i j:=by
 induction i using Nat.strongRecOn with
 |ind i ih=>
  intro k k' j h h';by_cases hg:gh (Bq f o p i j)=true
  ·obtain⟨a,b,c⟩:=jE hg;have hl:=(jZ f o p i j a b).resolve_right c;obtain⟨k,rfl⟩:∃k1,k=k1+1:=⟨k-1,XT⟩
   obtain⟨k',rfl⟩:∃k1,k'=k1+1:=⟨k'-1,XT⟩
   rw[dZ,dZ,XH hg,XH hg,ih _ hl.1 k k' _ (XT) (XT)]
  ·rw[gu hg,gu hg]
theorem uF{f:Nat→Nat→Option Int}{o p:Int}{i j:Nat}(h:gh (Bq f o p i j)=true):dZ f o p i i j=dZ f o p (cD f o p i j).1 (cD f o p i j).1 (cD f o p i j).2++[(i,j)]:=by
 obtain⟨a,b,c⟩:=jE h;have hl:=(jZ f o p i j a b).resolve_right c;obtain⟨i,rfl⟩:∃k1,i=k1+1:=⟨i-1,XT⟩
 rw[dZ,XH h,BD f o p _ i _ _ (XT) (Nat.le_refl _)]
structure Hi(K:W.Frag)(C:Addr):Prop where
 cl:uN K C
 worth:bS K C "worth"
 way:bS K C "way"
 row:bS K C "row"
 pairs:bS K C "pairs"
def qk(w:Int)(a r p:Addr):List (Str×V):=[("worth", .int w),("way", .ref a),("row", .ref r),("pairs", .ref p)]
theorem rP(w:Int)(a r p:Addr):(qk w a r p).lookup ("worth":Str)=some (V.int w):=by kernel_rfl
theorem nQ(w:Int)(a r p:Addr):(qk w a r p).lookup ("pairs":Str)=some (V.ref p):=by kernel_rfl
theorem JR(w:Int)(a r p:Addr):bb "pairs" (.ref p) (bb "row" (.ref r) (bb "way" (.ref a) (bb "worth" (.int w) [])))=qk w a r p:=by kernel_rfl
inductive rQ(C:Addr)(vs:List V)(H:Hp)(Q:VK)(u3:XK):Prop
 |mk (x dx a r p:Addr) (w:Int) (_:vs=[.ref x, .int w, .ref a, .ref r, .ref p]) (_:H x=some (.ins C dx [])) (_:Q .cJ (upd H x (.ins C dx (qk w a r p)))):rQ C vs H Q u3
inductive rR(C:Addr)(vs:List V)(H:Hp)(Q:VK)(u3:XK):Prop
 |mk (x dx a r p:Addr) (w:Int) (us:List V) (ps:List Pr) (_:vs=[.ref x]) (_:H x=some (.ins C dx (qk w a r p))) (_:H p=some (.lst us)) (_:eG H us ps) (_:ps≠[]) (_:∀H' k t,ax H H'→H' k=some (.tup [.int (-w), .ref t])→H' t=some (.tup [.int (lQ ps).1, .int (lQ ps).2])→Q (.ref k) H'):rR C vs H Q u3
inductive Yc(C CF:Addr)(vs:List V)(H:Hp)(Q:VK)(u3:XK):Prop
 |mk (x dx e b:Addr) (es bs:List Addr) (f:Nat→Nat→Option Int) (o p:Int) (n m:Nat) (w:Int) (pr:Addr) (us:List V) (ps:List (Nat×Nat)) (q0:Nat×Nat) (_:vs=[.ref x, .int w, .ref pr]) (_:pN H C x dx e b es bs f o p n m) (_:H pr=some (.lst us)) (_:eG H us (ps.map aN)) (_:∀q∈ps,q.1<n∧q.2<m) (_:(ps.filter fun q=>decide (dh f o p q.1 q.2=some w))[0]?=some q0) (_:n≤1000) (_:ps.length≤5000)
  (_:∀H' y dy wy rw jF,ax H H'→H y=none→H dy=none→H wy=none→H rw=none→H' y=some (.ins CF dy (qk w wy rw pr))→H' dy=some (.own y)→H' wy=some (.lst jF)→eG H' jF ((dZ f o p q0.1 q0.1 q0.2).map aN)→H' rw=some (.lst ((dZ f o p q0.1 q0.1 q0.2).map fun q=>bx (dh f o p q.1 q.2)))→Q (.ref y) H'):Yc C CF vs H Q u3
theorem Az{f:Nat→Nat→Option Int}{o p:Int}{n m:Nat}:∀k i j,i<n→j<m→∀q∈dZ f o p k i j,q.1<n∧q.2<m
 |0,i,j,hi,hj,q,hq=>by
  have:q=(i,j):=by simpa[dZ]using hq
  subst this;exact⟨hi,hj⟩
 |k+1,i,j,hi,hj,q,hq=>by
  by_cases h:gh (Bq f o p i j)=true
  ·rw[dZ,XH h]at hq;obtain⟨a,b,c⟩:=jE h;have hl:=(jZ f o p i j a b).resolve_right c;rcases List.mem_append.mp hq with z|z
   ·exact Az k _ _ (XT) (XT) q z
   ·have:q=(i,j):=by simpa using z
    subst this;exact⟨hi,hj⟩
  ·rw[gu h]at hq;have:q=(i,j):=by simpa using hq
   subst this;exact⟨hi,hj⟩
theorem xC{f:Nat→Nat→Option Int}{o p:Int}:∀k i j,(dZ f o p k i j).length≤k+1
 |0,i,j=>by simp[dZ]
 |k+1,i,j=>by
  by_cases h:gh (Bq f o p i j)=true
  ·rw[dZ,XH h,List.length_append];have:=xC (f:=f) (o:=o) (p:=p) k (cD f o p i j).1 (cD f o p i j).2;simp;omega
  ·rw[gu h];simp
end QF
namespace L2
open PySem PySem.Spec PyProof.Rows PySem.W PySem.Calls
section
variable{X:Cx}
inductive FW(K:Frag)(x:V)(y:V)(H:Hp)(Q:VK):Prop
 |mk (p q:Addr) (xs ys:List V) (_:x= .ref p) (_:y= .ref q) (_:Ck K H p xs) (_:Ck K H q ys) (_:xs.all qi=true) (_:ys.all qi=true) (_:Q (.bl (!tm xs ys)) H):FW K x y H Q
theorem BE(K:Frag)(hu:X.A.units<cLine)(hK:X.K=K:=by rfl):qT X (compareOp .NotEq) (FW K):=by
 subst hK;intro pins s σ H x y v u Q I rx ry h;obtain⟨p,q,xs,ys,rfl,rfl,hp,hq,f1,f2,k⟩:=h;cases rx;cases ry;obtain⟨its,r,pl,hz⟩:=I.tuple hp;obtain⟨fe,r2,I0,Mc⟩:=I.tuple hq;have he:=Ys (A:=X.A.in1) (s:=s) r r2 f1 f2;obtain⟨⟨cls,dd,data,sl⟩,ho,hc,n,hd⟩:=id pl;obtain⟨⟨Md,Fn,data2,X6⟩,Y',u7,n2,hd2⟩:=id I0;simp only at hc hd u7 hd2;subst hc hd u7 hd2;refine richCompare_meets_room (op:= .NotEq) ⟨_,ho,rfl⟩ ⟨_,Y',rfl⟩ F.slot_tuple_ne F.entry_tuple_ne (F.args_tuple_ne_2 _ _) (SeqAt.tuple_neAt p q its.toArray fe.toArray n n2 dd Fn sl X6 _) ⟨ho,Y',he,?_⟩ hu;have e:(!((List.range (min its.toArray.size fe.toArray.size)).all (fun j=>uV (xs.getD j .cJ) (ys.getD j .cJ))&&its.toArray.size==fe.toArray.size))=!tm xs ys:=by
  rw[←my,r.length,r2.length];simp
 rw[e];exact⟨(fun x=>nomatch x), .bl (!tm xs ys),H,I,rfl,k⟩
end
end L2
namespace QF
open PySem L2
theorem dB{p q:Pr}(h:a8 p=a8 q):p=q:=by
 simp only[a8,List.cons.injEq,Sum.inl.injEq,and_true]at h;exact Prod.ext h.1 h.2
theorem len_sub{α:Type}[DecidableEq α]:∀(l m:List α),l.Nodup→(∀x∈l,x∈m)→l.length≤m.length
 |[],m,_,_=>XX
 |x::r,m,hn,h=>by
  have Cj:=List.nodup_cons.mp hn;have hx:=h x (XX);have:=len_sub r (m.erase x) Cj.2 fun y hy=>(List.mem_erase_of_ne (fun e:y=x=>Cj.1 (by rw[←e];exact hy))).mpr (h y (by simp[hy]))
  rw[List.length_erase_of_mem hx]at this;have:=List.length_pos_of_mem hx;simp;omega
def Hj(E:Pr→Pr→Prop)(p:Pr):Pr→Pr→Prop:=fun a b=>E a b∨(a=p∧b=p)
def pQ(E:Pr→Pr→Prop)(p q:Pr):Pr→Pr→Prop:=fun a b=>E a b∨((E a p∨E a q)∧(E b p∨E b q))
theorem BF{E:Pr→Pr→Prop}{p q a b:Pr}:pQ E p q a b↔pQ E q p a b:=by
 unfold pQ;rw[or_comm (a:=E a p),or_comm (a:=E b p)]
structure nS(S:Addr→Prop)(H:Hp)(S':Addr→Prop)(H':Hp):Prop where
 grow:∀a,S' a→S a∨H a=none
 keep:∀a o,¬S a→H a=some o→H' a=some o
theorem nS.trans{S S' N_:Addr→Prop}{H H' Oa:Hp}(a:nS S H S' H')(b:nS S' H' N_ Oa):nS S H N_ Oa:=by
 refine⟨fun x hx=>?_,fun x o hs hx=>b.keep x o (fun z=>?_) (a.keep x o hs hx)⟩
 ·rcases b.grow x hx with h|h
  ·exact a.grow x h
  ·by_cases hs:S x
   ·exact .inl hs
   ·right
    cases e:H x with
    |none=>rfl
    |some o=>rw[a.keep x o hs e]at h;cases h
 ·rcases a.grow x z with h|h
  ·exact hs h
  ·rw[hx]at h;cases h
theorem nS.same{S:Addr→Prop}{H H':Hp}(s:ax H H'):nS S H S H':=⟨fun _ h=> .inl h,fun a o _ h=>s a o h⟩
theorem nS.put{S:Addr→Prop}{H:Hp}{a:Addr}{o:HO}(h:S a):nS S H S (upd H a o):=⟨fun _ h=> .inl h,fun b u hb e=>by rw[aj (fun z:b=a=>hb (by rw[z];exact h))];exact e⟩
structure MF(K:W.Frag)(C:Addr):Prop where
 cl:uN K C
 nU:bS K C "leads"
 members:bS K C "members"
def ql(dl dm:Addr):List (Str×V):=[("leads", .ref dl),("members", .ref dm)]
theorem i4(a b:Addr):(ql a b).lookup ("leads":Str)=some (V.ref a):=by kernel_rfl
theorem iA(a b:Addr):(ql a b).lookup ("members":Str)=some (V.ref b):=by kernel_rfl
theorem MI(a b:Addr):bb "members" (.ref b) (bb "leads" (.ref a) [])=ql a b:=by kernel_rfl
theorem MJ(a b:Addr):(ql a b).lookup ("has":Str)=none:=by kernel_rfl
theorem D0(a b:Addr):(ql a b).lookup ("take_in":Str)=none:=by kernel_rfl
theorem AA(a b:Addr):(ql a b).lookup ("unite":Str)=none:=by kernel_rfl
theorem JS(a b:Addr):(ql a b).lookup ("told":Str)=none:=by kernel_rfl
def JT(H:Hp)(v:Option V):Option Pr→Prop
 |none=>v=none
 |some l=>∃t,v=some (.ref t)∧H t=some (.tup (ju l))
def Qx(H:Hp)(S:Addr→Prop)(v:Option V):Option (List Pr)→Prop
 |none=>v=none
 |some ms=>∃a us,v=some (.ref a)∧H a=some (.lst us)∧eG H us ms∧S a
theorem JT.cF{H H':Hp}{v:Option V}{o:Option Pr}(h:JT H v o)(t:fg H H'):JT H' v o:=by
 cases o with
 |none=>exact h
 |some l=>obtain⟨a,h1,h2⟩:=h;exact⟨a,h1,t _ _ h2⟩
structure Ca(H:Hp)(S:Addr→Prop)(dl dm:Addr)(kl km:List (List Key×V))(ld:Pr→Option Pr)(mm:Pr→Option (List Pr)):Prop where
 hl:H dl=some (.dT kl)
 hm:H dm=some (.dT km)
 sl:S dl
 sm:S dm
 ne:dl≠dm
 lv:∀p,JT H (bh kl (a8 p)) (ld p)
 mv:∀p,Qx H S (bh km (a8 p)) (mm p)
 inj:∀p q a,bh km (a8 p)=some (.ref a)→bh km (a8 q)=some (.ref a)→p=q
 key:∀kv∈km,∃p,kv.1=a8 p
 AB:(km.map (·.1)).Nodup
 ms:∀l ms,mm l=some ms→ms.Nodup∧∀p,p∈ms↔ld p=some l
 ml:∀p l,ld p=some l→∃ms,mm l=some ms
 self:∀l ms,mm l=some ms→ld l=some l
theorem Ca.keep{H H':Hp}{S:Addr→Prop}{dl dm:Addr}{kl km:List (List Key×V)}{ld:Pr→Option Pr}{mm:Pr→Option (List Pr)}(d:Ca H S dl dm kl km ld mm)(h:∀a o,S a→H a=some o→H' a=some o)(t:fg H H'):Ca H' S dl dm kl km ld mm:=by
 refine⟨h _ _ d.sl d.hl,h _ _ d.sm d.hm,d.sl,d.sm,d.ne,fun p=>(d.lv p).cF t,fun p=>?_,d.inj,d.key,d.AB,d.ms,d.ml,d.self⟩;have:=d.mv p;cases e:mm p with
 |none=>rw[e]at this;exact this
 |some ms=>
  rw[e]at this;obtain⟨a,us,h1,h2,h3,h4⟩:=this;exact⟨a,us,h1,h _ _ h4 h2,h3.cF t,h4⟩
theorem Ca.XY{H:Hp}{S:Addr→Prop}{dl dm:Addr}{kl km:List (List Key×V)}{ld:Pr→Option Pr}{mm:Pr→Option (List Pr)}(d:Ca H S dl dm kl km ld mm){ms:List Pr}(hn:ms.Nodup)(h:∀p∈ms,∃l,ld p=some l):ms.length≤kl.length:=by
 have:=len_sub (ms.map a8) (kl.map (·.1)) (List.Pairwise.map _ (fun a b D1 z=>D1 (dB z)) hn) fun k hk=>by
  obtain⟨p,hp,rfl⟩:=List.mem_map.mp hk;obtain⟨l,hl⟩:=h p hp;have:=d.lv p;rw[hl]at this;obtain⟨t,h1,_⟩:=this;exact Z1 h1
 simpa using this
theorem Ca.take{H H':Hp}{S:Addr→Prop}{dl dm a t:Addr}{kl km:List (List Key×V)}{ld:Pr→Option Pr}{mm:Pr→Option (List Pr)}{p:Pr}(d:Ca H S dl dm kl km ld mm)(hn:ld p=none)(ht:H t=some (.tup (ju p)))(ha:H a=none)
  (h1:H' dl=some (.dT (putK kl (a8 p) (.ref t)))) (h2:H' dm=some (.dT (putK km (a8 p) (.ref a)))) (h3:H' a=some (.lst [.ref t])) (hk:∀b o,b≠dl→b≠dm→H b=some o→H' b=some o):
  Ca H' (fun x=>S x∨x=a) dl dm (putK kl (a8 p) (.ref t)) (putK km (a8 p) (.ref a)) (fun q=>if q=p then some p else ld q) (fun q=>if q=p then some [p]else mm q):=by
 have T:fg H H':=fun b v hb=>hk b _ (fun z=>by rw[z,d.hl]at hb;cases hb) (fun z=>by rw[z,d.hm]at hb;cases hb) hb
 have Se:mm p=none:=by
  cases e:mm p with
  |none=>rfl
  |some ms=>have:=d.self p ms e;rw[hn]at this;cases this
 have D5:bh km (a8 p)=none:=by have:=d.mv p;rw[Se]at this;exact this
 have MK:∀q b,bh km (a8 q)=some (.ref b)→b≠a:=fun q b hq z=>by
  have:=d.mv q;cases e:mm q with
  |none=>rw[e]at this;have:bh km (a8 q)=none:=this;rw[this]at hq;cases hq
  |some ms=>
   rw[e]at this;obtain⟨a',us,e1,e2,_⟩:=this;rw[hq]at e1;cases e1;rw[z,ha]at e2;cases e2
 refine⟨h1,h2, .inl d.sl, .inl d.sm,d.ne,fun q=>?_,fun q=>?_,fun q r b hq hr=>?_,fun kv Ob=>?_,?_,fun l ms hl=>?_,fun q l hq=>?_,fun l ms hl=>?_⟩
 ·rw[jv];by_cases e:q=p
  ·rw[XH (by rw[e]),XH e];exact⟨t,rfl,T _ _ ht⟩
  ·rw[XE (fun z=>e (dB z)),XE e];exact(d.lv q).cF T
 ·show Qx _ _ _ (if q=p then some [p]else mm q);rw[jv];by_cases e:q=p
  ·rw[XH (by rw[e]),XH e];exact⟨a,_,rfl,h3,eG.one (T _ _ ht), .inr rfl⟩
  ·rw[XE (fun z=>e (dB z)),XE e];have:=d.mv q;cases e2:mm q with
   |none=>rw[e2]at this;exact this
   |some ms=>
    rw[e2]at this;obtain⟨b,us,z1,z2,z3,z4⟩:=this;exact⟨b,us,z1,hk b _ (fun z=>by rw[z,d.hl]at z2;cases z2) (fun z=>by rw[z,d.hm]at z2;cases z2) z2,z3.cF T, .inl z4⟩
 ·rw[jv]at hq hr;by_cases e:q=p
  ·by_cases e2:r=p
   ·rw[e,e2]
   ·rw[XH (by rw[e])]at hq;rw[XE (fun z=>e2 (dB z))]at hr;cases hq;exact absurd rfl (MK r _ hr)
  ·rw[XE (fun z=>e (dB z))]at hq;by_cases e2:r=p
   ·rw[XH (by rw[e2])]at hr;cases hr;exact absurd rfl (MK q _ hq)
   ·rw[XE (fun z=>e2 (dB z))]at hr;exact d.inj q r b hq hr
 ·rw[rp _ D5]at Ob;rcases List.mem_append.mp Ob with z|z
  ·exact d.key kv z
  ·exact⟨p,by rw[List.mem_singleton.mp z]⟩
 ·rw[rp _ D5,List.map_append];refine List.nodup_append.mpr ⟨d.AB,XX,fun x hx y hy e=>?_⟩;have hy:y=a8 p:=by simpa using hy
  rw[e,hy]at hx;exact Z6 D5 hx
 ·have hl:(if l=p then some [p]else mm l)=some ms:=hl;by_cases e:l=p
  ·rw[XH e]at hl;cases hl;refine⟨XX,fun q=>?_⟩;rw[List.mem_singleton];show q=p↔(if q=p then some p else ld q)=some l;by_cases e2:q=p
   ·rw[XH e2,e];simp[e2]
   ·rw[XE e2];refine⟨fun z=>absurd z e2,fun z=>?_⟩;obtain⟨ms,Cb⟩:=d.ml q l z;rw[e,Se]at Cb;cases Cb
  ·rw[XE e]at hl;obtain⟨z1,z2⟩:=d.ms l ms hl;refine⟨z1,fun q=>?_⟩;rw[z2];show ld q=some l↔(if q=p then some p else ld q)=some l;by_cases e2:q=p
   ·rw[XH e2,e2,hn];refine⟨fun z=>(by cases z),fun z=>absurd (XM z).symm e⟩
   ·rw[XE e2]
 ·have hq:(if q=p then some p else ld q)=some l:=hq;show ∃ms,(if l=p then some [p]else mm l)=some ms;by_cases e:l=p
  ·exact⟨[p],XH e⟩
  ·rw[XE e];by_cases e2:q=p
   ·rw[XH e2]at hq;exact absurd (XM hq).symm e
   ·rw[XE e2]at hq;exact d.ml q l hq
 ·have hl:(if l=p then some [p]else mm l)=some ms:=hl;show(if l=p then some p else ld l)=some l;by_cases e:l=p
  ·rw[XH e,e]
  ·rw[XE e]at hl⊢;exact d.self l ms hl
theorem AD{κ:Type}[DecidableEq κ]{k:κ}{v:V}:∀{kvs:List (κ×V)}{i:Nat},(kvs.map (·.1)).Nodup→kvs[i]?=some (k,v)→bh kvs k=some v
 |[],i,_,h=>by simp at h
 |p::r,0,_,h=>by
  have h:p=(k,v):=by simpa using h
  subst h;exact cz rfl
 |p::r,i+1,hn,h=>by
  have Cj:=List.nodup_cons.mp (show(p.1::r.map (·.1)).Nodup from hn);have h:r[i]?=some (k,v):=by simpa using h
  rw[cj (fun e=>Cj.1 (by rw[e];exact List.mem_map.mpr ⟨_,XF h,rfl⟩))];exact AD Cj.2 h
theorem xD{κ:Type}[DecidableEq κ]{k:κ}{v:V}:∀{kvs:List (κ×V)},bh kvs k=some v→∃i:Nat,kvs[i]?=some (k,v)
 |[],h=>by cases h
 |p::r,h=>by
  by_cases e:p.1=k
  ·rw[cz e]at h;exact⟨0,by simp;exact Prod.ext e (XM h)⟩
  ·rw[cj e]at h;obtain⟨i,hi⟩:=xD h;exact⟨i+1,by simpa using hi⟩
theorem lF{κ:Type}[DecidableEq κ](k j:κ):∀kvs:List (κ×V),bh (iE kvs k) j=if j=k then none else bh kvs j
 |[]=>by simp[iE,bh]
 |p::r=>by
  have ih:=lF k j r;unfold iE at ih⊢;rw[List.filter_cons];by_cases e:p.1=k
  ·rw[XE (by simpa using e),ih];by_cases e2:j=k
   ·rw[XH e2,XH e2]
   ·rw[XE e2,XE e2,cj (fun z=>e2 (z.symm.trans e))]
  ·rw[XH (by simpa using e)];by_cases e2:p.1=j
   ·rw[cz e2,XE (fun z=>e (e2.trans z)),cz e2]
   ·rw[cj e2,ih,cj e2]
theorem Ca.MN{H H':Hp}{S:Addr→Prop}{dl dm al tl:Addr}{kl tw km:List (List Key×V)}{ld:Pr→Option Pr}{mm:Pr→Option (List Pr)}{l g:Pr}{m1 m2:List Pr}{rg jF:List V}(d:Ca H S dl dm kl km ld mm)(AE:l≠g)(h1:mm l=some m1)(h2:mm g=some m2)(AF:bh km (a8 l)=some (.ref al))(P1:eG H rg m1)(P2:eG H jF m2)(Pg:H al=some (.lst rg))(xE:H tl=some (.tup (ju l)))
  (Sg:∀r,bh tw (a8 r)=if r∈m2 then some (.ref tl)else bh kl (a8 r)) (e1:H' dl=some (.dT tw)) (e2:H' dm=some (.dT (iE km (a8 g)))) (e3:H' al=some (.lst (rg++jF))) (hk:∀b o,b≠dl→b≠dm→b≠al→H b=some o→H' b=some o):
  Ca H' S dl dm tw (iE km (a8 g)) (fun r=>if r∈m2 then some l else ld r) (fun r=>if r=g then none else if r=l then some (m1++m2)else mm r):=by
 have T:fg H H':=fun b v hb=>hk b _ (fun z=>by rw[z,d.hl]at hb;cases hb) (fun z=>by rw[z,d.hm]at hb;cases hb) (fun z=>by rw[z,Pg]at hb;cases hb) hb
 obtain⟨n1,q1⟩:=d.ms l m1 h1;obtain⟨n2,q2⟩:=d.ms g m2 h2;refine⟨e1,e2,d.sl,d.sm,d.ne,fun r=>?_,fun r=>?_,fun p q a hp hq=>?_,fun kv Ob=>d.key kv (List.mem_filter.mp Ob).1,d.AB.sublist (List.filter_sublist.map _),fun x ms hx=>?_,fun p x hp=>?_,fun x ms hx=>?_⟩
 ·show JT H' _ (if r∈m2 then some l else ld r);rw[Sg];by_cases e:r∈m2
  ·rw[XH e,XH e];exact⟨tl,rfl,T _ _ xE⟩
  ·rw[XE e,XE e];exact(d.lv r).cF T
 ·show Qx H' S _ (if r=g then none else if r=l then some (m1++m2)else mm r);rw[lF];by_cases e:r=g
  ·rw[XH (by rw[e]),XH e];rfl
  ·rw[XE (fun z=>e (dB z)),XE e];by_cases e4:r=l
   ·rw[XH e4,e4,AF];have:=d.mv l;rw[h1]at this;obtain⟨a,us,z1,_,_,z4⟩:=this;rw[AF]at z1;cases z1;exact⟨al,_,rfl,e3,(P1.append P2).cF T,z4⟩
   ·rw[XE e4];have:=d.mv r;cases e5:mm r with
    |none=>rw[e5]at this;exact this
    |some ms=>
     rw[e5]at this;obtain⟨a,us,z1,z2,z3,z4⟩:=this;exact⟨a,us,z1,hk a _ (fun z=>by rw[z,d.hl]at z2;cases z2) (fun z=>by rw[z,d.hm]at z2;cases z2) (fun z=>e4 (d.inj r l al (by rw[z1,z]) AF)) z2,z3.cF T,z4⟩
 ·rw[lF]at hp hq;by_cases e:p=g
  ·rw[XH (by rw[e])]at hp;cases hp
  ·by_cases e4:q=g
   ·rw[XH (by rw[e4])]at hq;cases hq
   ·rw[XE (fun z=>e (dB z))]at hp;rw[XE (fun z=>e4 (dB z))]at hq;exact d.inj p q a hp hq
 ·have hx:(if x=g then none else if x=l then some (m1++m2)else mm x)=some ms:=hx;by_cases e:x=g
  ·rw[XH e]at hx;cases hx
  ·rw[XE e]at hx;by_cases e4:x=l
   ·rw[XH e4]at hx;cases hx;refine⟨List.nodup_append.mpr ⟨n1,n2,fun a ha b hb z=>?_⟩,fun p=>?_⟩
    ·have ha:=(q1 a).mp ha;have hb:=(q2 b).mp hb;rw[z,hb]at ha;exact AE (XM ha).symm
    ·rw[List.mem_append];show p∈m1∨p∈m2↔(if p∈m2 then some l else ld p)=some x;rw[e4];by_cases e5:p∈m2
     ·rw[XH e5];simp[e5]
     ·rw[XE e5,←q1];simp[e5]
   ·rw[XE e4]at hx;obtain⟨z1,z2⟩:=d.ms x ms hx;refine⟨z1,fun p=>?_⟩;rw[z2];show ld p=some x↔(if p∈m2 then some l else ld p)=some x;by_cases e5:p∈m2
    ·rw[XH e5,(q2 p).mp e5];exact⟨fun z=>absurd (XM z).symm e,fun z=>absurd (XM z).symm e4⟩
    ·rw[XE e5]
 ·have hp:(if p∈m2 then some l else ld p)=some x:=hp;show ∃ms,(if x=g then none else if x=l then some (m1++m2)else mm x)=some ms;by_cases e5:p∈m2
  ·rw[XH e5]at hp;cases hp;exact⟨m1++m2,by rw[XE AE,if_pos rfl]⟩
  ·rw[XE e5]at hp;have hg:x≠g:=fun z=>e5 ((q2 p).mpr (by rw[hp,z]))
   by_cases e4:x=l
   ·exact⟨m1++m2,by rw[XE hg,XH e4]⟩
   ·obtain⟨ms,Cb⟩:=d.ml p x hp;exact⟨ms,by rw[XE hg,XE e4];exact Cb⟩
 ·have hx:(if x=g then none else if x=l then some (m1++m2)else mm x)=some ms:=hx;show(if x∈m2 then some l else ld x)=some x;by_cases e:x=g
  ·rw[XH e]at hx;cases hx
  ·rw[XE e]at hx;have Sh:ld x=some x:=by
    by_cases e4:x=l
    ·rw[e4];exact d.self l m1 h1
    ·rw[XE e4]at hx;exact d.self x ms hx
   have:x∉m2:=fun z=>by
    have:=(q2 x).mp z;rw[Sh]at this;exact e (XM this)
   rw[XE this,Sh]
theorem JU{ld:Pr→Option Pr}{l g p q:Pr}{m2:List Pr}(AE:l≠g)(hp:ld p=some l)(hq:ld q=some g)(q2:∀r,r∈m2↔ld r=some g){E:Pr→Pr→Prop}(hE:∀a b,E a b↔∃x,ld a=some x∧ld b=some x)(a b:Pr):
  pQ E p q a b↔∃x,(if a∈m2 then some l else ld a)=some x∧(if b∈m2 then some l else ld b)=some x:=by
 have A:∀c,(E c p∨E c q)↔(if c∈m2 then some l else ld c)=some l:=fun c=>by
  rw[hE,hE,hp,hq];by_cases e:c∈m2
  ·rw[XH e,(q2 c).mp e];simp
  ·rw[XE e];have:ld c≠some g:=fun z=>e ((q2 c).mpr z)
   constructor
   ·rintro(⟨x,h1,h2⟩|⟨x,h1,h2⟩)
    ·cases h2;exact h1
    ·cases h2;exact absurd h1 this
   ·exact fun z=> .inl ⟨l,z,rfl⟩
 unfold pQ;rw[A,A,hE];constructor
 ·rintro(⟨x,h1,h2⟩|⟨h1,h2⟩)
  ·by_cases e:x=g
   ·subst e;exact⟨l,by rw[XH ((q2 a).mpr h1)],by rw[XH ((q2 b).mpr h2)]⟩
   ·exact⟨x,by rw[XE (fun z=>e (by have:=(q2 a).mp z;rw[h1]at this;exact XM this))];exact h1,by rw[XE (fun z=>e (by have:=(q2 b).mp z;rw[h2]at this;exact XM this))];exact h2⟩
  ·exact⟨l,h1,h2⟩
 ·rintro⟨x,h1,h2⟩;by_cases e:x=l
  ·subst e;exact .inr ⟨h1,h2⟩
  ·left
   refine⟨x,?_,?_⟩
   ·by_cases e2:a∈m2
    ·rw[XH e2]at h1;exact absurd (XM h1).symm e
    ·rw[XE e2]at h1;exact h1
   ·by_cases e2:b∈m2
    ·rw[XH e2]at h2;exact absurd (XM h2).symm e
    ·rw[XE e2]at h2;exact h2
def jl(H:Hp)(C g:Addr)(S:Addr→Prop)(E:Pr→Pr→Prop)(B:Nat):Prop:=
 ∃dg dl dm kl km ld mm,H g=some (.ins C dg (ql dl dm))∧¬S g∧Ca H S dl dm kl km ld mm∧(∀a b,E a b↔∃l,ld a=some l∧ld b=some l)∧kl.length≤B∧km.length≤B
theorem jl.keep{H H':Hp}{C g:Addr}{S:Addr→Prop}{E:Pr→Pr→Prop}{B:Nat}(G:jl H C g S E B)(h:∀a o,S a→H a=some o→H' a=some o)(t:fg H H')(hg:∀o,H g=some o→H' g=some o):jl H' C g S E B:=by
 obtain⟨dg,dl,dm,kl,km,ld,mm,a1,a2,a3,a4⟩:=G;exact⟨dg,dl,dm,kl,km,ld,mm,hg _ a1,a2,a3.keep h t,a4⟩
theorem jl.same{H H':Hp}{C g:Addr}{S:Addr→Prop}{E:Pr→Pr→Prop}{B:Nat}(G:jl H C g S E B)(s:ax H H'):jl H' C g S E B:=G.keep (fun a o _ h=>s a o h) (fg.same s) (fun o h=>s _ _ h)
theorem jl.iff{H:Hp}{C g:Addr}{S:Addr→Prop}{E E':Pr→Pr→Prop}{B B':Nat}(G:jl H C g S E B)(h:∀a b,E' a b↔E a b)(hB:B≤B'):jl H C g S E' B':=by
 obtain⟨dg,dl,dm,kl,km,ld,mm,a1,a2,a3,a4,a5,a6⟩:=G;exact⟨dg,dl,dm,kl,km,ld,mm,a1,a2,a3,fun a b=>(h a b).trans (a4 a b),XT,XT⟩
structure Told(E:Pr→Pr→Prop)(gs:List (List Pr)):Prop where
 tq:∀ps∈gs,ps.Pairwise fun p q=>jD p q=true
 ne:∀ps∈gs,ps≠[]
 cls:∀ps∈gs,∀a∈ps,∀b,b∈ps↔E a b
 all:∀a,E a a→∃ps∈gs,a∈ps
 apart:gs.Pairwise fun ps qs=>∀a∈ps,a∉qs
inductive rS(C:Addr)(vs:List V)(H:Hp)(Q:VK)(u3:XK):Prop
 |mk (x dx:Addr) (_:vs=[.ref x]) (_:H x=some (.ins C dx [])) (_:∀H' S,SameBut x H H'→(∀a,S a→H a=none)→jl H' C x S (fun _ _=>False) 0→Q .cJ H'):rS C vs H Q u3
inductive Yj(C:Addr)(vs:List V)(H:Hp)(Q:VK)(u3:XK):Prop
 |mk (x t:Addr) (p:Pr) (S:Addr→Prop) (E:Pr→Pr→Prop) (B:Nat) (_:vs=[.ref x, .ref t]) (_:jl H C x S E B) (_:H t=some (.tup (ju p))) (_:∀b:Bool,(b=true↔E p p)→Q (.bl b) H):Yj C vs H Q u3
inductive vD(C:Addr)(vs:List V)(H:Hp)(Q:VK)(u3:XK):Prop
 |mk (x t:Addr) (p:Pr) (S:Addr→Prop) (E:Pr→Pr→Prop) (B:Nat) (_:vs=[.ref x, .ref t]) (_:jl H C x S E B) (_:H t=some (.tup (ju p))) (_:B≤10000) (_:∀H' S',nS S H S' H'→jl H' C x S' (Hj E p) (B+1)→Q .cJ H'):vD C vs H Q u3
inductive rT(C:Addr)(vs:List V)(H:Hp)(Q:VK)(u3:XK):Prop
 |mk (x t u:Addr) (p q:Pr) (S:Addr→Prop) (E:Pr→Pr→Prop) (B:Nat) (_:vs=[.ref x, .ref t, .ref u]) (_:jl H C x S E B) (_:H t=some (.tup (ju p))) (_:H u=some (.tup (ju q))) (_:E p p) (_:E q q) (_:B≤10000) (_:∀H',nS S H S H'→jl H' C x S (pQ E p q) B→Q .cJ H'):rT C vs H Q u3
inductive vE(C:Addr)(vs:List V)(H:Hp)(Q:VK)(u3:XK):Prop
 |mk (x:Addr) (S:Addr→Prop) (E:Pr→Pr→Prop) (B:Nat) (_:vs=[.ref x]) (_:jl H C x S E B) (_:B<10000) (_:∀H' r us gs,nS S H S H'→H r=none→H' r=some (.lst us)→fN H' us gs→(∀(k:Nat) a,us[k]?=some (.ref a)→H a=none)→Told E gs→Q (.ref r) H'):vE C vs H Q u3
theorem YX(g:Pr→Option Int)(o i:Int){as:List Pr}(d6:as≠[])(q:Pr)(bs:List Pr):vl g o i (as++q::bs)=vl g o i as-gp o i (lstP as) q+vl g o i (q::bs):=by
 rw[vw,nL g o i d6];omega
theorem Wy.app{g:Pr→Option Int}{as:List Pr}{q:Pr}{bs:List Pr}(a:Wy g as)(b:Wy g (q::bs))(s:X5 (lstP as) q):Wy g (as++q::bs):=by
 refine⟨XX,fun x hx=>?_,List.pairwise_append.mpr ⟨a.up,b.up,fun x hx y hy=>?_⟩⟩
 ·rcases List.mem_append.mp hx with h|h
  ·exact a.ok x h
  ·exact b.ok x h
 ·have h1:X5 x q:=by
   rcases pw_lst a.up hx with e|e
   ·rw[e];exact s
   ·exact pK e s
  rcases List.mem_cons.mp hy with e|e
  ·rw[e];exact h1
  ·exact pK h1 ((List.pairwise_cons.mp b.up).1 y e)
theorem Wy.left{g:Pr→Option Int}{as bs:List Pr}(w:Wy g (as++bs))(h:as≠[]):Wy g as:=⟨h,fun x hx=>w.ok x (List.mem_append_left _ hx),(List.pairwise_append.mp w.up).1⟩
theorem Wy.right{g:Pr→Option Int}{as bs:List Pr}(w:Wy g (as++bs))(h:bs≠[]):Wy g bs:=⟨h,fun x hx=>w.ok x (List.mem_append_right _ hx),(List.pairwise_append.mp w.up).2.1⟩
section
variable(f:Nat→Nat→Option Int)(o p W:Int)
def BW(ps:List Pr):Prop:=Wy (lf f) ps∧vl (lf f) o p ps=W
def eJ:Prop:=∀ps,Wy (lf f) ps→vl (lf f) o p ps≤W
inductive gc:Pr→Pr→Prop
 |way {a b:Pr} (ps:List Pr) (_:BW f o p W ps) (_:a∈ps) (_:b∈ps):gc a b
 |tr {a b c:Pr} (_:gc a b) (_:gc b c):gc a c
def tD(as:List Pr)(x y:Int):Int:=vl (lf f) o p as-(o*(x-1-(lstP as).1)+p*(y-1-(lstP as).2))
def MO(q:Pr)(bs:List Pr)(x y:Int):Int:=vl (lf f) o p (q::bs)-(o*(q.1-x)+p*(q.2-y))
def Over(x y:Int)(r:Pr):Prop:=∃as q bs,Wy (lf f) as∧Wy (lf f) (q::bs)∧(lstP as).1<x∧(lstP as).2<y∧x≤q.1∧y≤q.2∧vl (lf f) o p (as++q::bs)=W∧r∈q::bs
end
section
variable{f:Nat→Nat→Option Int}{o p W:Int}
theorem gc.symm{a b:Pr}(h:gc f o p W a b):gc f o p W b a:=by
 induction h with
 |way ps h1 h2 h3=>exact .way ps h1 h3 h2
 |tr _ _ i1 i2=>exact .tr i2 i1
theorem gc.left{a b:Pr}(h:gc f o p W a b):gc f o p W a a:= .tr h h.symm
theorem gc.on{a b:Pr}(h:gc f o p W a b):∃ps,BW f o p W ps∧a∈ps:=by
 induction h with
 |way ps h1 h2 h3=>exact⟨ps,h1,h2⟩
 |tr _ _ i1 _=>exact i1
theorem mD{as:List Pr}{q:Pr}{bs:List Pr}(d6:as≠[])(x y:Int):vl (lf f) o p (as++q::bs)=tD f o p as x y+MO f o p q bs x y:=by
 rw[YX _ _ _ d6];unfold tD MO gp;have e1:q.1-(lstP as).1-1=(x-1-(lstP as).1)+(q.1-x):=XT;have e2:q.2-(lstP as).2-1=(y-1-(lstP as).2)+(q.2-y):=XT;rw[e1,e2,Int.mul_add,Int.mul_add];omega
theorem lG(T:eJ f o p W){as wG:List Pr}{q:Pr}{bs:List Pr}{x y:Int}(a:Wy (lf f) as)(b:Wy (lf f) (q::bs))(h3:x≤q.1)(h4:y≤q.2)(hW:vl (lf f) o p (as++q::bs)=W)
  (a':Wy (lf f) wG) (l1:(lstP wG).1<x) (l2:(lstP wG).2<y) (hb:tD f o p as x y≤tD f o p wG x y):BW f o p W (wG++q::bs):=by
 have w:=a'.app b ⟨XT,XT⟩;refine⟨w,?_⟩;have:=T _ w;rw[mD a'.ne x y]at this⊢;rw[mD a.ne x y]at hW;omega
theorem vF{as:List Pr}{i j:Nat}(a:Wy (lf f) as)(l1:(lstP as).1<(i:Int))(l2:(lstP as).2<(j:Int)):∃b,Bq f o p i j=some b∧tD f o p as i j≤b:=by
 have m:=fG f o p i j;cases e:Bq f o p i j with
 |none=>rw[e]at m;exact absurd ⟨as,a,l1,l2,rfl⟩ (m _)
 |some b=>rw[e]at m;exact⟨b,rfl,m.2 _ ⟨as,a,l1,l2,rfl⟩⟩
theorem vG{i j:Nat}{b:Int}(e:Bq f o p i j=some b):∃as,Wy (lf f) as∧(lstP as).1<(i:Int)∧(lstP as).2<(j:Int)∧tD f o p as i j=b:=by
 have m:=fG f o p i j;rw[e]at m;obtain⟨as,h1,h2,h3,h4⟩:=m.1;exact⟨as,h1,h2,h3,h4.symm⟩
theorem lH{i j:Nat}{b:Int}(e:dh f o p i j=some b):∃as,Wy (lf f) as∧lstP as=aN (i,j)∧vl (lf f) o p as=b:=by
 have m:=rM f o p i j;rw[e]at m;obtain⟨as,h1,h2,h3⟩:=m.1;exact⟨as,h1,h2,h3.symm⟩
theorem vH{as:List Pr}{i j:Nat}(a:Wy (lf f) as)(l:lstP as=aN (i,j)):∃b,dh f o p i j=some b∧vl (lf f) o p as≤b:=by
 have m:=rM f o p i j;cases e:dh f o p i j with
 |none=>rw[e]at m;exact absurd ⟨as,a,l,rfl⟩ (m _)
 |some b=>rw[e]at m;exact⟨b,rfl,m.2 _ ⟨as,a,l,rfl⟩⟩
theorem D6{i j:Nat}(e:dh f o p i j=some W):gc f o p W (aN (i,j)) (aN (i,j)):=by
 obtain⟨as,h1,h2,h3⟩:=lH e;have:aN (i,j)∈as:=by rw[←h2];exact cV h1.ne
 exact .way as ⟨h1,h3⟩ this this
theorem BG(T:eJ f o p W){i j:Nat}{r:Pr}(h:Over f o p W ((i+1:Nat):Int) ((j+1:Nat):Int) r)(e:dh f o p i j=Bq f o p (i+1) (j+1)):gc f o p W (aN (i,j)) r:=by
 obtain⟨as,q,bs,a,b,l1,l2,l3,l4,hW,hr⟩:=h;obtain⟨v,hv,hle⟩:=vF (o:=o) (p:=p) a l1 l2;rw[hv]at e;obtain⟨wG,a',k1,k2⟩:=lH e;have hb:tD f o p wG ((i+1:Nat):Int) ((j+1:Nat):Int)=v:=by
  unfold tD;rw[k1,k2];have e1:((i+1:Nat):Int)-1-(aN (i,j)).1=0:=by show((i+1:Nat):Int)-1-(i:Int)=0;omega
  have e2:((j+1:Nat):Int)-1-(aN (i,j)).2=0:=by show((j+1:Nat):Int)-1-(j:Int)=0;omega
  rw[e1,e2,Int.mul_zero,Int.mul_zero];omega
 have:=lG T a b l3 l4 hW a' (by rw[k1];simp[aN];omega) (by rw[k1];simp[aN];omega) (by rw[hb];exact hle);refine .way _ this (List.mem_append_left _ ?_) (List.mem_append_right _ hr);rw[←k1];exact cV a'.ne
theorem qm(T:eJ f o p W){i j x y:Nat}{r:Pr}{c:Int}(h:Over f o p W ((i+1:Nat):Int) ((j+1:Nat):Int) r)(hx:x≤i+1)(hy:y≤j+1)(hc:c=o*((i+1:Nat)-x:Int)+p*((j+1:Nat)-y:Int))(e:bq (Bq f o p x y) c=Bq f o p (i+1) (j+1)):Over f o p W (x:Int) (y:Int) r:=by
 obtain⟨as,q,bs,a,b,l1,l2,l3,l4,hW,hr⟩:=h;obtain⟨v,hv,hle⟩:=vF (o:=o) (p:=p) a l1 l2;rw[hv]at e;cases e2:Bq f o p x y with
 |none=>rw[e2]at e;cases e
 |some v2=>
  rw[e2]at e;have e:v2-c=v:=by simpa[bq]using e
  obtain⟨wG,a',k1,k2,k3⟩:=vG e2;have hb:tD f o p wG ((i+1:Nat):Int) ((j+1:Nat):Int)=v:=by
   unfold tD at k3⊢;have e1:((i+1:Nat):Int)-1-(lstP wG).1=((x:Int)-1-(lstP wG).1)+((i+1:Nat)-x:Int):=by lia
   have e2:((j+1:Nat):Int)-1-(lstP wG).2=((y:Int)-1-(lstP wG).2)+((j+1:Nat)-y:Int):=by lia
   rw[e1,e2,Int.mul_add,Int.mul_add]
   lia
  have:=lG T a b l3 l4 hW a' XR (by lia) (by rw[hb];exact hle);exact⟨wG,q,bs,a',b,k1,k2,by lia,by lia,this.2,hr⟩
theorem FX(T:eJ f o p W){i j:Nat}(h:gc f o p W (aN (i,j)) (aN (i,j)))(g:gh (Bq f o p i j)=true):Over f o p W (i:Int) (j:Int) (aN (i,j)):=by
 obtain⟨ws,⟨hw,hW⟩,hm⟩:=h.on;obtain⟨u,v,rfl⟩:=List.append_of_mem hm;cases e:Bq f o p i j with
 |none=>rw[e]at g;cases g
 |some b=>
  rw[e]at g;have g:0≤b:=by simpa[gh]using g
  obtain⟨as,a,k1,k2,k3⟩:=vG e;have hr:Wy (lf f) (aN (i,j)::v):=hw.right XN;have ws:=a.app hr ⟨k1,k2⟩;have hle:=T _ ws;have cv:=mD (f:=f) (o:=o) (p:=p) (q:=aN (i,j)) (bs:=v) a.ne (i:Int) (j:Int);have ha:MO f o p (aN (i,j)) v (i:Int) (j:Int)=vl (lf f) o p (aN (i,j)::v):=by
   unfold MO;have e1:(aN (i,j)).1-(i:Int)=0:=by simp[aN]
   have e2:(aN (i,j)).2-(j:Int)=0:=by simp[aN]
   rw[e1,e2,Int.mul_zero,Int.mul_zero];omega
  have WZ:W≤b+vl (lf f) o p (aN (i,j)::v):=by
   by_cases hu:u=[]
   ·subst hu;simp only[List.nil_append]at hW;omega
   ·have cu:=mD (f:=f) (o:=o) (p:=p) (q:=aN (i,j)) (bs:=v) hu (i:Int) (j:Int);have Oc:Wy (lf f) u:=hw.left hu;have hs:X5 (lstP u) (aN (i,j)):=(List.pairwise_append.mp hw.up).2.2 _ (cV hu) _ (XX);obtain⟨b2,X4,Vh⟩:=vF (o:=o) (p:=p) Oc (i:=i) (j:=j) hs.1 hs.2;rw[e]at X4;cases X4;omega
  exact⟨as,aN (i,j),v,a,hr,k1,k2,by simp[aN],by simp[aN],XT,XX⟩
theorem over_over(T:eJ f o p W){x y:Int}{r r':Pr}(h:Over f o p W x y r)(h':Over f o p W x y r'):gc f o p W r r':=by
 obtain⟨as,q,bs,a,b,l1,l2,l3,l4,hW,hr⟩:=h;obtain⟨wG,q',Vi,a',b',k1,k2,k3,k4,Si,JV⟩:=h';have w1:BW f o p W (as++q::bs):=⟨a.app b ⟨XT,XT⟩,hW⟩
 have w2:BW f o p W (wG++q'::Vi):=⟨a'.app b' ⟨XT,XT⟩,Si⟩
 by_cases hb:tD f o p as x y≤tD f o p wG x y
 ·have:=lG T a b l3 l4 hW a' k1 k2 hb;exact .tr (.way (b:=lstP wG) _ this (List.mem_append_right _ hr) (List.mem_append_left _ (cV a'.ne))) (.way _ w2 (List.mem_append_left _ (cV a'.ne)) (List.mem_append_right _ JV))
 ·have:=lG T a' b' k3 k4 Si a l1 l2 XQ;exact .tr (.way (b:=lstP as) _ w1 (List.mem_append_right _ hr) (List.mem_append_left _ (cV a.ne))) (.way _ this (List.mem_append_left _ (cV a.ne)) (List.mem_append_right _ JV))
theorem between(T:eJ f o p W){u v:List Pr}{q r:Nat×Nat}(w:BW f o p W (u++aN q::aN r::v)):
  (∀x y:Nat,q.1<x→q.2<y→x≤r.1→y≤r.2→Bq f o p x y=some (tD f o p (u++[aN q]) x y))∧dh f o p q.1 q.2=some (vl (lf f) o p (u++[aN q]))∧0≤tD f o p (u++[aN q]) r.1 r.2:=by
 obtain⟨w,hW⟩:=w;have e:u++aN q::aN r::v=(u++[aN q])++aN r::v:=XX;rw[e]at w hW;have hl:Wy (lf f) (u++[aN q]):=w.left XN;have hr:Wy (lf f) (aN r::v):=w.right XN;have ls:lstP (u++[aN q])=aN q:=dA;have ua:X5 (aN q) (aN r):=by
  have:=(List.pairwise_append.mp w.up).2.2 _ (cV hl.ne) (aN r) (XX);rw[ls]at this;exact this
 refine⟨fun x y h1 h2 h3 h4=>?_,?_,?_⟩
 ·have c1:(lstP (u++[aN q])).1<(x:Int):=by rw[ls];simp[aN];omega
  have c2:(lstP (u++[aN q])).2<(y:Int):=by rw[ls];simp[aN];omega
  obtain⟨b,hb,hle⟩:=vF (o:=o) (p:=p) hl c1 c2;rw[hb]
  congr 1
  obtain⟨as,a,k1,k2,k3⟩:=vG hb;have wa:=a.app hr ⟨by simp[aN];omega,by simp[aN];omega⟩;have:=T _ wa;rw[mD a.ne (x:Int) (y:Int)]at this;rw[mD hl.ne (x:Int) (y:Int)]at hW;omega
 ·obtain⟨b,hb,hle⟩:=vH (o:=o) (p:=p) hl (i:=q.1) (j:=q.2) ls;rw[hb]
  congr 1
  obtain⟨as,a,k1,k2⟩:=lH hb;have wa:=a.app hr (by rw[k1];exact ua);have:=T _ wa;rw[YX _ _ _ a.ne,k1,show aN (q.1,q.2)=aN q from rfl]at this;rw[YX _ _ _ hl.ne,ls]at hW;omega
 ·have:=T _ hr;rw[mD hl.ne (r.1:Int) (r.2:Int)]at hW;unfold MO at hW;have e1:(aN r).1-(r.1:Int)=0:=by simp[aN]
  have e2:(aN r).2-(r.2:Int)=0:=by simp[aN]
  rw[e1,e2,Int.mul_zero,Int.mul_zero]at hW;omega
end
abbrev GS:=(Pr→Pr→Prop)×(Pr→Option Pr)
def xF(s:GS)(c r:Pr):GS:=
 match s.2 c with
 |some r0=>(pQ s.1 r0 r,s.2)
 |none=>(s.1,fun x=>if x=c then some r else s.2 x)
section
variable(f:Nat→Nat→Option Int)(o p W:Int)
def Hk(i j:Nat)(s:GS)(r:Pr):GS:=(if dh f o p i j=Bq f o p (i+1) (j+1)then pQ (Hj s.1 (aN (i,j))) (aN (i,j)) r else s.1,s.2)
def JW(i j:Nat)(s:GS)(r:Pr):GS:=(bf f o p i j).foldl (fun s c=>xF s c r) (Hk f o p i j s r)
def FY(i j:Nat)(s:GS):GS:=(if dh f o p i j=some W then Hj s.1 (aN (i,j))else s.1,s.2)
def Cc(i j:Nat)(s:GS):GS:=
 match s.2 (aN (i+1,j+1))with
 |some r=>JW f o p i j (FY f o p W i j s) r
 |none=>FY f o p W i j s
open Classical in
noncomputable def X9(i j:Nat)(s:GS):GS:=if (Cc f o p W i j s).1 (aN (i,j)) (aN (i,j))∧gh (Bq f o p i j)=true then xF (Cc f o p W i j s) (aN (i,j)) (aN (i,j))else Cc f o p W i j s
structure gP(s:GS):Prop where
 sy:∀a b,s.1 a b→s.1 b a
 tr:∀a b c,s.1 a b→s.1 b c→s.1 a c
 hg:∀a b,s.1 a b→gc f o p W a b
 mr:∀c r,s.2 c=some r→s.1 r r∧∃i j:Nat,c=aN (i,j)∧Over f o p W (i:Int) (j:Int) r
end
structure Gw(s s':GS)(N:Pr→Prop)(M:Pr→Prop):Prop where
 e:∀a b,s.1 a b→s'.1 a b
 n:∀a,s'.1 a a→s.1 a a∨N a
 m:∀c r,s.2 c=some r→s'.2 c=some r
 k:∀c r,s'.2 c=some r→s.2 c=some r∨M c
theorem Gw.refl{s:GS}{N M:Pr→Prop}:Gw s s N M:=⟨fun _ _ h=>h,fun _ h=> .inl h,fun _ _ h=>h,fun _ _ h=> .inl h⟩
theorem Gw.trans{s s' uP:GS}{N M:Pr→Prop}(a:Gw s s' N M)(b:Gw s' uP N M):Gw s uP N M:=
 ⟨fun x y h=>b.e x y (a.e x y h),fun x h=>(b.n x h).elim (a.n x) .inr,fun c r h=>b.m c r (a.m c r h),fun c r h=>(b.k c r h).elim (a.k c r) .inr⟩
theorem Gw.wide{s s':GS}{N M N' M':Pr→Prop}(a:Gw s s' N M)(hN:∀x,N x→N' x)(hM:∀x,M x→M' x):Gw s s' N' M':=⟨a.e,fun x h=>(a.n x h).imp id (hN x),a.m,fun c r h=>(a.k c r h).imp id (hM c)⟩
section
variable{f:Nat→Nat→Option Int}{o p W:Int}{s:GS}
theorem gP.Sj(k:gP f o p W s){a b:Pr}(ha:s.1 a a)(hb:s.1 b b)(h:gc f o p W a b):gP f o p W (pQ s.1 a b,s.2):=by
 have hc:∀c,s.1 c a∨s.1 c b→gc f o p W c a:=fun c h'=>h'.elim (k.hg c a) fun z=> .tr (k.hg c b z) h.symm
 refine⟨fun x y h=>?_,fun x y z h1 h2=>?_,fun x y h=>?_,fun c r h=>⟨.inl (k.mr c r h).1,(k.mr c r h).2⟩⟩
 ·exact h.imp (k.sy x y) fun h=>⟨h.2,h.1⟩
 ·rcases h1 with h1|⟨h1,Ku⟩
  ·rcases h2 with h2|⟨h2,GZ⟩
   ·exact .inl (k.tr _ _ _ h1 h2)
   ·exact .inr ⟨h2.imp (k.tr _ _ _ h1) (k.tr _ _ _ h1),GZ⟩
  ·rcases h2 with h2|⟨h2,GZ⟩
   ·exact .inr ⟨h1,Ku.imp (k.tr _ _ _ (k.sy _ _ h2)) (k.tr _ _ _ (k.sy _ _ h2))⟩
   ·exact .inr ⟨h1,GZ⟩
 ·rcases h with h|⟨h1,h2⟩
  ·exact k.hg x y h
  ·exact .tr (hc x h1) (hc y h2).symm
theorem gP.take(k:gP f o p W s){a:Pr}(h:gc f o p W a a):gP f o p W (Hj s.1 a,s.2):=by
 refine⟨fun x y h=>?_,fun x y z h1 h2=>?_,fun x y h'=>?_,fun c r h=>⟨.inl (k.mr c r h).1,(k.mr c r h).2⟩⟩
 ·exact h.imp (k.sy x y) fun h=>⟨h.2,h.1⟩
 ·rcases h1 with h1|⟨h1,Ku⟩
  ·rcases h2 with h2|⟨h2,GZ⟩
   ·exact .inl (k.tr _ _ _ h1 h2)
   ·subst h2 GZ;exact .inl h1
  ·subst h1 Ku;exact h2
 ·rcases h' with h'|⟨h1,h2⟩
  ·exact k.hg x y h'
  ·subst h1 h2;exact h
theorem D7(sy:∀a b,s.1 a b→s.1 b a)(tr:∀a b c,s.1 a b→s.1 b c→s.1 a c){a b:Pr}:Gw s (pQ s.1 a b,s.2) (fun _=>False) (fun _=>False):=by
 refine⟨fun _ _ h=> .inl h,fun x h=> .inl ?_,fun _ _ h=>h,fun _ _ h=> .inl h⟩;rcases h with h|⟨h,_⟩
 ·exact h
 ·exact h.elim (fun z=>tr _ _ _ z (sy _ _ z)) fun z=>tr _ _ _ z (sy _ _ z)
theorem gP.mark(T:eJ f o p W)(k:gP f o p W s){i j:Nat}{r:Pr}(hr:s.1 r r)(ov:Over f o p W (i:Int) (j:Int) r):gP f o p W (xF s (aN (i,j)) r):=by
 unfold xF;cases e:s.2 (aN (i,j))with
 |some r0=>
  obtain⟨h1,i2,j2,h2,h3⟩:=k.mr _ _ e;have h2:(i:Int)=i2∧(j:Int)=j2:=by simpa[aN]using h2
  rw[←h2.1,←h2.2]at h3;exact k.Sj h1 hr (over_over T h3 ov)
 |none=>
  refine⟨k.sy,k.tr,k.hg,fun c r' h=>?_⟩;have h:(if c=aN (i,j)then some r else s.2 c)=some r':=h;by_cases e2:c=aN (i,j)
  ·rw[XH e2]at h;cases h;exact⟨hr,i,j,e2,ov⟩
  ·rw[XE e2]at h;exact k.mr c r' h
theorem Hl(k:gP f o p W s){c r:Pr}:Gw s (xF s c r) (fun _=>False) (·=c):=by
 unfold xF;cases e:s.2 c with
 |some r0=>exact(D7 k.sy k.tr).wide (fun _ h=>h) fun _ h=>h.elim
 |none=>
  refine⟨fun _ _ h=>h,fun _ h=> .inl h,fun c' r' h=>?_,fun c' r' h=>?_⟩
  ·show(if c'=c then some r else s.2 c')=some r';rw[XE (fun z=>by rw[z,e]at h;cases h)];exact h
  ·have h:(if c'=c then some r else s.2 c')=some r':=h;by_cases e2:c'=c
   ·exact .inr e2
   ·rw[XE e2]at h;exact .inl h
theorem D8(k:gP f o p W s){c r:Pr}(hr:s.1 r r):∃r',(xF s c r).2 c=some r'∧(xF s c r).1 r r':=by
 unfold xF;cases e:s.2 c with
 |some r0=>exact⟨r0,e, .inr ⟨.inr hr, .inl (k.mr _ _ e).1⟩⟩
 |none=>exact⟨r,XX,hr⟩
theorem rV(T:eJ f o p W){r:Pr}:∀(cs:List Pr)(s:GS),gP f o p W s→s.1 r r→(∀c∈cs,∃i j:Nat,c=aN (i,j)∧Over f o p W (i:Int) (j:Int) r)→
  gP f o p W (cs.foldl (fun s c=>xF s c r) s)∧Gw s (cs.foldl (fun s c=>xF s c r) s) (fun _=>False) (·∈cs)∧∀c∈cs,∃r',(cs.foldl (fun s c=>xF s c r) s).2 c=some r'∧(cs.foldl (fun s c=>xF s c r) s).1 r r'
 |[],s,k,_,_=>⟨k, .refl,fun c h=>by cases h⟩
 |c::cs,s,k,hr,h=>by
  obtain⟨i,j,rfl,ov⟩:=h c (XX);have k1:=k.mark T hr ov;have g1:=Hl k (c:=aN (i,j)) (r:=r);obtain⟨r',m1,m2⟩:=D8 k (c:=aN (i,j)) hr;obtain⟨a1,a2,a3⟩:=rV T cs _ k1 (g1.e _ _ hr) fun c hc=>h c (by simp[hc])
  refine⟨a1,(g1.wide (fun _ h=>h) fun x hx=>?_).trans (a2.wide (fun _ h=>h) fun x hx=>?_),fun c hc=>?_⟩
  ·show x∈_::_;rw[hx];simp
  ·exact List.mem_cons_of_mem _ hx
  ·rcases List.mem_cons.mp hc with rfl|hc
   ·exact⟨r',a2.m _ _ m1,a2.e _ _ m2⟩
   ·exact a3 c hc
theorem qo(T:eJ f o p W){i j:Nat}{r:Pr}(h:Over f o p W ((i+1:Nat):Int) ((j+1:Nat):Int) r):∀c∈bf f o p i j,∃x y:Nat,c=aN (x,y)∧Over f o p W (x:Int) (y:Int) r:=by
 intro c hc;unfold bf at hc;rcases List.mem_append.mp hc with hc|hc
 ·split at hc
  ·rename_i e
   have:c=aN (i,j+1):=by simpa[aN]using hc
   refine⟨i,j+1,this,qm T h XQ (XT) ?_ e⟩;have e1:((i+1:Nat):Int)-(i:Int)=1:=XT;have e2:((j+1:Nat):Int)-((j+1:Nat):Int)=0:=XT;rw[e1,e2];omega
  ·cases hc
 ·split at hc
  ·rename_i e
   have:c=aN (i+1,j):=by simpa[aN]using hc
   refine⟨i+1,j,this,qm T h XQ (XT) ?_ e⟩;have e1:((i+1:Nat):Int)-((i+1:Nat):Int)=0:=XT;have e2:((j+1:Nat):Int)-(j:Int)=1:=XT;rw[e1,e2];omega
  ·cases hc
theorem D9(T:eJ f o p W)(k:gP f o p W s){i j:Nat}{r:Pr}(hr:s.1 r r)(ov:Over f o p W ((i+1:Nat):Int) ((j+1:Nat):Int) r):
  gP f o p W (Hk f o p i j s r)∧Gw s (Hk f o p i j s r) (·=aN (i,j)) (·∈bf f o p i j)∧(dh f o p i j=Bq f o p (i+1) (j+1)→(Hk f o p i j s r).1 (aN (i,j)) r):=by
 unfold Hk;by_cases e:dh f o p i j=Bq f o p (i+1) (j+1)
 ·rw[XH e];have h:=BG T ov e;have k1:=k.take h.left;have k2:=k1.Sj (a:=aN (i,j)) (b:=r) (.inr ⟨rfl,rfl⟩) (.inl hr) h;refine⟨k2,⟨fun a b h=> .inl (.inl h),fun a h=>?_,fun _ _ h=>h,fun _ _ h=> .inl h⟩,fun _=> .inr ⟨.inl (.inr ⟨rfl,rfl⟩), .inr (.inl hr)⟩⟩;rcases(D7 (s:=(Hj s.1 (aN (i,j)),s.2)) k1.sy k1.tr).n a h with h|h
  ·exact h.imp id And.left
  ·exact h.elim
 ·rw[XE e];exact⟨⟨k.sy,k.tr,k.hg,k.mr⟩, .refl,fun z=>absurd z e⟩
theorem MP(T:eJ f o p W)(k:gP f o p W s){i j:Nat}{r:Pr}(hr:s.1 r r)(ov:Over f o p W ((i+1:Nat):Int) ((j+1:Nat):Int) r):
  gP f o p W (JW f o p i j s r)∧Gw s (JW f o p i j s r) (·=aN (i,j)) (·∈bf f o p i j)∧(dh f o p i j=Bq f o p (i+1) (j+1)→(JW f o p i j s r).1 (aN (i,j)) r)∧∀c∈bf f o p i j,∃r',(JW f o p i j s r).2 c=some r'∧(JW f o p i j s r).1 r r':=by
 obtain⟨b1,b2,b3⟩:=D9 T k hr ov;obtain⟨a1,a2,a3⟩:=rV T (bf f o p i j) _ b1 (b2.e _ _ hr) (qo T ov);exact⟨a1,b2.trans (a2.wide (fun _ h=>h.elim) fun _ h=>h),fun e=>a2.e _ _ (b3 e),a3⟩
theorem D_(k:gP f o p W s)(i j:Nat):gP f o p W (FY f o p W i j s)∧Gw s (FY f o p W i j s) (·=aN (i,j)) (fun _=>False)∧(dh f o p i j=some W→(FY f o p W i j s).1 (aN (i,j)) (aN (i,j))):=by
 unfold FY;by_cases e:dh f o p i j=some W
 ·rw[XH e];exact⟨k.take (D6 e),⟨fun _ _ h=> .inl h,fun _ h=>h.imp id And.left,fun _ _ h=>h,fun _ _ h=> .inl h⟩,fun _=> .inr ⟨rfl,rfl⟩⟩
 ·rw[XE e];exact⟨⟨k.sy,k.tr,k.hg,k.mr⟩, .refl,fun z=>absurd z e⟩
def JX(f:Nat→Nat→Option Int)(o p:Int)(i j:Nat)(c:Pr):Prop:=c∈bf f o p i j∨c=aN (i,j)
theorem Ea(T:eJ f o p W)(k:gP f o p W s)(i j:Nat):gP f o p W (Cc f o p W i j s)∧Gw s (Cc f o p W i j s) (·=aN (i,j)) (JX f o p i j)∧(dh f o p i j=some W→(Cc f o p W i j s).1 (aN (i,j)) (aN (i,j)))∧∀r,s.2 (aN (i+1,j+1))=some r→
  (dh f o p i j=Bq f o p (i+1) (j+1)→(Cc f o p W i j s).1 (aN (i,j)) r)∧∀c∈bf f o p i j,∃r',(Cc f o p W i j s).2 c=some r'∧(Cc f o p W i j s).1 r r':=by
 obtain⟨k1,g1,e1⟩:=D_ k i j;unfold Cc;cases e:s.2 (aN (i+1,j+1))with
 |none=>exact⟨k1,g1.wide (fun _ h=>h) fun _ h=>h.elim,e1,fun r h=>by cases h⟩
 |some r=>
  obtain⟨h1,i2,j2,h2,h3⟩:=k.mr _ _ e;have h2:((i+1:Nat):Int)=i2∧((j+1:Nat):Int)=j2:=by simpa[aN]using h2
  rw[←h2.1,←h2.2]at h3;obtain⟨a1,a2,a3,a4⟩:=MP T k1 (g1.e _ _ h1) h3;refine⟨a1,(g1.wide (fun _ h=>h) fun _ h=>h.elim).trans (a2.wide (fun _ h=>h) fun _ h=> .inl h),fun z=>a2.e _ _ (e1 z),fun r' h=>?_⟩;cases h;exact⟨a3,a4⟩
theorem MQ(T:eJ f o p W)(k:gP f o p W s)(i j:Nat):gP f o p W (X9 f o p W i j s)∧Gw s (X9 f o p W i j s) (·=aN (i,j)) (JX f o p i j)∧(dh f o p i j=some W→(X9 f o p W i j s).1 (aN (i,j)) (aN (i,j)))∧(∀r,s.2 (aN (i+1,j+1))=some r→
  (dh f o p i j=Bq f o p (i+1) (j+1)→(X9 f o p W i j s).1 (aN (i,j)) r)∧∀c∈bf f o p i j,∃r',(X9 f o p W i j s).2 c=some r'∧(X9 f o p W i j s).1 r r')∧
  ((X9 f o p W i j s).1 (aN (i,j)) (aN (i,j))→gh (Bq f o p i j)=true→∃r,(X9 f o p W i j s).2 (aN (i,j))=some r∧(X9 f o p W i j s).1 (aN (i,j)) r):=by
 obtain⟨k1,g1,e1,o1⟩:=Ea T k i j;unfold X9;split
 ·rename_i h
  have k2:=k1.mark T h.1 (FX T (k1.hg _ _ h.1) h.2);have g2:=Hl k1 (c:=aN (i,j)) (r:=aN (i,j));refine⟨k2,g1.trans (g2.wide (fun _ h=>h.elim) fun _ h=> .inr h),fun z=>g2.e _ _ (e1 z),fun r hr=>?_,fun _ _=>D8 k1 h.1⟩;obtain⟨a1,a2⟩:=o1 r hr;refine⟨fun z=>g2.e _ _ (a1 z),fun c hc=>?_⟩;obtain⟨r',b1,b2⟩:=a2 c hc;exact⟨r',g2.m _ _ b1,g2.e _ _ b2⟩
 ·rename_i h
  exact⟨k1,g1,e1,o1,fun h1 h2=>absurd ⟨h1,h2⟩ h⟩
end
structure Vd(f:Nat→Nat→Option Int)(o p W:Int)(V:Nat→Nat→Prop)(s:GS):Prop where
 ok:gP f o p W s
 Vj:∀a,s.1 a a→∃i j:Nat,a=aN (i,j)∧V i j
 en:∀i j,V i j→dh f o p i j=some W→s.1 (aN (i,j)) (aN (i,j))
 on:∀i j,V i j→s.1 (aN (i,j)) (aN (i,j))→gh (Bq f o p i j)=true→∃r,s.2 (aN (i,j))=some r∧s.1 (aN (i,j)) r
 ov:∀i j r,V i j→s.2 (aN (i+1,j+1))=some r→(dh f o p i j=Bq f o p (i+1) (j+1)→s.1 (aN (i,j)) r)∧∀c∈bf f o p i j,∃r',s.2 c=some r'∧s.1 r r'
theorem hV{a b c d:Nat}(h:aN (a,b)=aN (c,d)):a=c∧b=d:=by
 have h:(a:Int)=c∧(b:Int)=d:=by simpa[aN]using h
 omega
theorem Eb{f:Nat→Nat→Option Int}{o p:Int}{i j a b:Nat}(h:JX f o p i j (aN (a+1,b+1))):(a+1=i∧b+1=j)∨(a+1=i∧b=j)∨(a=i∧b+1=j):=by
 rcases h with h|h
 ·unfold bf at h;rcases List.mem_append.mp h with h|h
  ·split at h
   ·have:aN (a+1,b+1)=aN (i,j+1):=by simpa[aN]using h
    have:=hV this;omega
   ·cases h
  ·split at h
   ·have:aN (a+1,b+1)=aN (i+1,j):=by simpa[aN]using h
    have:=hV this;omega
   ·cases h
 ·have:=hV h;omega
def Vb(n m i j:Nat)(a b:Nat):Prop:=a<n∧b<m∧(i<a∨(i=a∧j≤b))
theorem Vd.start(f:Nat→Nat→Option Int)(o p W:Int)(n m:Nat):Vd f o p W (Vb n m n 0) (fun _ _=>False,fun _=>none):=by
 have no:∀a b,¬Vb n m n 0 a b:=fun a b ⟨h1,_,h2⟩=>XT
 exact⟨⟨fun _ _ h=>h.elim,fun _ _ _ h=>h.elim,fun _ _ h=>h.elim,fun _ _ h=>(by cases h)⟩,fun _ h=>h.elim,fun i j h=>absurd h (no i j),fun i j h=>absurd h (no i j),fun i j r h=>absurd h (no i j)⟩
theorem Vd.turn{f:Nat→Nat→Option Int}{o p W:Int}{n m i:Nat}{s:GS}(v:Vd f o p W (Vb n m (i+1) 0) s):Vd f o p W (Vb n m i m) s:=by
 have e:Vb n m (i+1) 0=Vb n m i m:=by
  funext a b
  simp only[Vb,eq_iff_iff];omega
 rw[←e];exact v
theorem Vd.next{f:Nat→Nat→Option Int}{o p W:Int}{n m i j:Nat}{s:GS}(T:eJ f o p W)(hi:i<n)(hj:j<m)(v:Vd f o p W (Vb n m i (j+1)) s):Vd f o p W (Vb n m i j) (X9 f o p W i j s):=by
 obtain⟨k,g,e,ov,on⟩:=MQ T v.ok i j;have cut:∀a b,Vb n m i j a b→(a=i∧b=j)∨Vb n m i (j+1) a b:=fun a b h=>by
  unfold Vb at h⊢
  lia
 have old:∀a b r,Vb n m i j a b→(X9 f o p W i j s).2 (aN (a+1,b+1))=some r→s.2 (aN (a+1,b+1))=some r:=fun a b r h hr=>by
  rcases g.k _ _ hr with z|z
  ·exact z
  ·have:=Eb z;unfold Vb at h
   lia
 refine⟨k,fun a ha=>?_,fun a b h he=>?_,fun a b h h1 h2=>?_,fun a b r h hr=>?_⟩
 ·rcases g.n a ha with z|z
  ·obtain⟨x,y,h1,h2⟩:=v.Vj a z;exact⟨x,y,h1,by unfold Vb at h2⊢;lia⟩
  ·exact⟨i,j,z,by unfold Vb;lia⟩
 ·rcases cut a b h with⟨rfl,rfl⟩|h'
  ·exact e he
  ·exact g.e _ _ (v.en a b h' he)
 ·rcases cut a b h with⟨rfl,rfl⟩|h'
  ·exact on h1 h2
  ·have hs:s.1 (aN (a,b)) (aN (a,b)):=by
    rcases g.n _ h1 with z|z
    ·exact z
    ·have:=hV z;unfold Vb at h'
     lia
   obtain⟨r,z1,z2⟩:=v.on a b h' hs h2;exact⟨r,g.m _ _ z1,g.e _ _ z2⟩
 ·have JV:=old a b r h hr;rcases cut a b h with⟨rfl,rfl⟩|h'
  ·exact ov r JV
  ·obtain⟨z1,z2⟩:=v.ov a b r h' JV;refine⟨fun z=>g.e _ _ (z1 z),fun c hc=>?_⟩;obtain⟨r',y1,y2⟩:=z2 c hc;exact⟨r',g.m _ _ y1,g.e _ _ y2⟩
theorem jm{f:Nat→Nat→Option Int}{n m:Nat}(t:B8 f n m){ps:List Pr}(w:Wy (lf f) ps){a:Pr}(h:a∈ps):∃i j:Nat,a=aN (i,j)∧i<n∧j<m:=by
 have hs:=w.ok a h;obtain⟨i,j,rfl⟩:=Aj hs;rw[pL]at hs;obtain⟨h1,h2⟩:=t i j hs;exact⟨i,j,rfl,h1,h2⟩
theorem Vd.step{f:Nat→Nat→Option Int}{o p W:Int}{n m:Nat}{s:GS}(T:eJ f o p W)(v:Vd f o p W (Vb n m 0 0) s){us vs:List Pr}{q r:Nat×Nat}(w:BW f o p W (us++aN q::aN r::vs))(hr:r.1<n)(X3:r.2<m)(hq:q.1<r.1)(KH:q.2<r.2)(hE:s.1 (aN r) (aN r)):s.1 (aN q) (aN r):=by
 obtain⟨b1,b2,b3⟩:=between T w;have ok:=v.ok;have V0:∀a b,a<n→b<m→Vb n m 0 0 a b:=fun a b h1 h2=>⟨h1,h2,by lia⟩
 have top:=b1 r.1 r.2 hq KH (Nat.le_refl _) (Nat.le_refl _);obtain⟨r0,m0,e0⟩:=v.on r.1 r.2 (V0 _ _ hr X3) hE (by rw[top];simpa[gh]using b3);have Vk:∀x y:Nat,tD f o p (us++[aN q]) (x:Int) (y:Int)-o=tD f o p (us++[aN q]) ((x+1:Nat):Int) (y:Int):=fun x y=>by
  unfold tD;have e1:((x+1:Nat):Int)-1-(lstP (us++[aN q])).1=((x:Int)-1-(lstP (us++[aN q])).1)+1:=by lia
  rw[e1,Int.mul_add];lia
 have Vl:∀x y:Nat,tD f o p (us++[aN q]) (x:Int) (y:Int)-p=tD f o p (us++[aN q]) (x:Int) ((y+1:Nat):Int):=fun x y=>by
  unfold tD;have e1:((y+1:Nat):Int)-1-(lstP (us++[aN q])).2=((y:Int)-1-(lstP (us++[aN q])).2)+1:=by lia
  rw[e1,Int.mul_add];lia
 have go:∀d x y:Nat,(r.1-x)+(r.2-y)=d→q.1<x→q.2<y→x≤r.1→y≤r.2→∃r',s.2 (aN (x,y))=some r'∧s.1 (aN r) r':=by
  intro d
  induction d with
  |zero=>
   intro x y hd h1 h2 h3 h4;have:x=r.1:=by lia
   have:y=r.2:=by lia
   subst x y;exact⟨r0,m0,e0⟩
  |succ d ih=>
   intro x y hd h1 h2 h3 h4;by_cases hx:x<r.1
   ·obtain⟨r1,m1,e1⟩:=ih (x+1) y XR (by lia) h2 XR h4;obtain⟨y,rfl⟩:∃y',y=y'+1:=⟨y-1,by lia⟩
    obtain⟨_,z⟩:=v.ov x y r1 (V0 _ _ (by lia) (by lia)) m1;have hc:aN (x,y+1)∈bf f o p x y:=by
     unfold bf;refine List.mem_append_left _ ?_;rw[if_pos]
     ·simp[aN]
     ·rw[b1 x (y+1) h1 h2 h3 h4,b1 (x+1) (y+1) (by lia) h2 XR h4];simp only[bq];rw[Vk]
    obtain⟨r2,m2,e2⟩:=z _ hc;exact⟨r2,m2,ok.tr _ _ _ e1 e2⟩
   ·obtain⟨r1,m1,e1⟩:=ih x (y+1) (by lia) h1 XR h3 XR;obtain⟨x,rfl⟩:∃x',x=x'+1:=⟨x-1,by lia⟩
    obtain⟨_,z⟩:=v.ov x y r1 (V0 _ _ (by lia) (by lia)) m1;have hc:aN (x+1,y)∈bf f o p x y:=by
     unfold bf;refine List.mem_append_right _ ?_;rw[if_pos]
     ·simp[aN]
     ·rw[b1 (x+1) y h1 h2 h3 h4,b1 (x+1) (y+1) h1 XR h3 XR];simp only[bq];rw[Vl]
    obtain⟨r2,m2,e2⟩:=z _ hc;exact⟨r2,m2,ok.tr _ _ _ e1 e2⟩
 obtain⟨r1,m1,e1⟩:=go _ (q.1+1) (q.2+1) rfl (by lia) (by lia) (by lia) (by lia);obtain⟨z,_⟩:=v.ov q.1 q.2 r1 (V0 _ _ (by lia) (by lia)) m1;have:=z (by
  rw[b2,b1 (q.1+1) (q.2+1) (by lia) (by lia) (by lia) (by lia)]
  congr 1
  unfold tD;rw[dA];have z1:((q.1+1:Nat):Int)-1-(aN q).1=0:=by show((q.1+1:Nat):Int)-1-(q.1:Int)=0;lia
  have z2:((q.2+1:Nat):Int)-1-(aN q).2=0:=by show((q.2+1:Nat):Int)-1-(q.2:Int)=0;lia
  rw[z1,z2,Int.mul_zero,Int.mul_zero];lia)
 exact ok.tr _ _ _ this (ok.sy _ _ e1)
theorem Vd.all{f:Nat→Nat→Option Int}{o p W:Int}{n m:Nat}{s:GS}(T:eJ f o p W)(t:B8 f n m)(v:Vd f o p W (Vb n m 0 0) s){ws:List Pr}(w:BW f o p W ws):
  ∀(vs us:List Pr),ws=us++vs→vs≠[]→∀a∈vs,s.1 a (lQ vs)
 |[],_,_,h=>absurd rfl h
 |[l],us,e,_=>fun a ha=>by
  have ha:a=l:=by simpa using ha
  subst ha;show s.1 a a;obtain⟨i,j,rfl,hi,hj⟩:=jm t w.1 (a:=a) (by rw[e];simp);have hl:lstP ws=aN (i,j):=by rw[e];exact dA
  obtain⟨b,hb,hle⟩:=vH (o:=o) (p:=p) w.1 hl;obtain⟨as,a1,a2,a3⟩:=lH hb;have:=T _ a1;have hW:=w.2;exact v.en i j ⟨hi,hj,XT⟩ (by rw[hb];congr 1;omega)
 |q::r::vs,us,e,_=>fun a ha=>by
  have ih:=Vd.all T t v w (r::vs) (us++[q]) (by rw[e];simp) (XX);have KI:s.1 r r:=ih r XN;have ok:=v.ok;obtain⟨i,j,hq,hi,hj⟩:=jm t w.1 (a:=q) (by rw[e];simp);obtain⟨x,y,hr,hx,hy⟩:=jm t w.1 (a:=r) (by rw[e];simp);have ua:X5 q r:=by
   have:=w.1.up;rw[e]at this;exact(List.pairwise_cons.mp (List.pairwise_append.mp this).2.1).1 r XN
  rw[hq,hr]at ua;have h1:(i:Int)<x:=ua.1;have h2:(j:Int)<y:=ua.2;rw[e,hq,hr]at w;have key:=v.step T w (q:=(i,j)) (r:=(x,y)) hx hy (by show i<x;omega) (by show j<y;omega) (by rw[←hr];exact KI);rw[←hq,←hr]at key;show s.1 a q;rcases List.mem_cons.mp ha with rfl|ha
  ·exact ok.tr _ _ _ key (ok.sy _ _ key)
  ·exact ok.tr _ _ _ (ih a ha) (ok.sy _ _ key)
theorem Vd.Qy{f:Nat→Nat→Option Int}{o p W:Int}{n m:Nat}{s:GS}(T:eJ f o p W)(t:B8 f n m)(v:Vd f o p W (Vb n m 0 0) s)(a b:Pr):s.1 a b↔gc f o p W a b:=by
 refine⟨v.ok.hg a b,fun h=>?_⟩
 induction h with
 |way ps w h1 h2=>
  have k:=Vd.all T t v w ps [] rfl w.1.ne;exact v.ok.tr _ _ _ (k _ h1) (v.ok.sy _ _ (k _ h2))
 |tr _ _ i1 i2=>exact v.ok.tr _ _ _ i1 i2
theorem Told.iff{E E':Pr→Pr→Prop}{gs:List (List Pr)}(t:Told E gs)(h:∀a b,E a b↔E' a b):Told E' gs:=
 ⟨t.tq,t.ne,fun ps hp a ha b=>(t.cls ps hp a ha b).trans (h a b),fun a ha=>t.all a ((h a a).mpr ha),t.apart⟩
def NT(H:Hp)(a:Addr):Prop:=∃o,H a=some o∧∀v,o≠ .tup v
theorem NT.same{H H':Hp}{a:Addr}(h:NT H a)(s:ax H H'):NT H' a:=let ⟨o,h1,h2⟩:=h;⟨o,s _ _ h1,h2⟩
theorem nS.cF{S S':Addr→Prop}{H H':Hp}(u:nS S H S' H')(h:∀a,S a→NT H a):fg H H':=fun t v e=>u.keep t _ (fun z=>by
 obtain⟨o,h1,h2⟩:=h t z;rw[e]at h1;cases h1;exact h2 v rfl) e
theorem nS.out{S S':Addr→Prop}{H H':Hp}(u:nS S H S' H'){a:Addr}{o:HO}(h:¬S a)(e:H a=some o):¬S' a:=fun z=>by
 rcases u.grow a z with z|z
 ·exact h z
 ·rw[e]at z;cases z
theorem jl.nt{H:Hp}{C g:Addr}{S:Addr→Prop}{E:Pr→Pr→Prop}{B:Nat}(G:jl H C g S E B):jl H C g (fun a=>S a∧NT H a) E B:=by
 obtain⟨dg,dl,dm,kl,km,ld,mm,a1,a2,D,a4⟩:=G;refine⟨dg,dl,dm,kl,km,ld,mm,a1,fun z=>a2 z.1,⟨D.hl,D.hm,⟨D.sl,_,D.hl,fun v=>(XX)⟩,⟨D.sm,_,D.hm,fun v=>(XX)⟩,D.ne,D.lv,fun p=>?_,D.inj,D.key,D.AB,D.ms,D.ml,D.self⟩,a4⟩;have:=D.mv p;cases e:mm p with
 |none=>rw[e]at this;exact this
 |some ms=>
  rw[e]at this;obtain⟨a,us,h1,h2,h3,h4⟩:=this;exact⟨a,us,h1,h2,h3,h4,_,h2,fun v=>(XX)⟩
structure Hm(K:W.Frag)(C:Addr):Prop where
 cl:uN K C
 rW:bS K C "trails"
 worth:bS K C "worth"
 groups:bS K C "groups"
 marks:bS K C "marks"
def jn(tr:Addr)(W:Int)(g dk:Addr):List (Str×V):=[("trails", .ref tr),("worth", .int W),("groups", .ref g),("marks", .ref dk)]
theorem lI(a:Addr)(W:Int)(b c:Addr):(jn a W b c).lookup ("trails":Str)=some (V.ref a):=by kernel_rfl
theorem Ec(a:Addr)(W:Int)(b c:Addr):(jn a W b c).lookup ("worth":Str)=some (V.int W):=by kernel_rfl
theorem iB(a:Addr)(W:Int)(b c:Addr):(jn a W b c).lookup ("groups":Str)=some (V.ref b):=by kernel_rfl
theorem kQ(a:Addr)(W:Int)(b c:Addr):(jn a W b c).lookup ("marks":Str)=some (V.ref c):=by kernel_rfl
theorem AG(a:Addr)(W:Int)(b c:Addr):(jn a W b c).lookup ("mark":Str)=none:=by kernel_rfl
theorem FZ(a:Addr)(W:Int)(b c:Addr):(jn a W b c).lookup ("go_over":Str)=none:=by kernel_rfl
theorem Ed(a:Addr)(W:Int)(b c:Addr):(jn a W b c).lookup ("visit":Str)=none:=by kernel_rfl
theorem JY(a:Addr)(W:Int)(b c:Addr):bb "marks" (.ref c) (bb "groups" (.ref b) (bb "worth" (.int W) (bb "trails" (.ref a) [])))=jn a W b c:=by kernel_rfl
structure JZ(H:Hp)(C CG x tr:Addr)(W:Int)(S:Addr→Prop)(s:GS)(B M:Nat)(dx g dk:Addr)(km:List (List Key×V))(S1:Addr→Prop):Prop where
 ob:H x=some (.ins C dx (jn tr W g dk))
 gr:jl H CG g S1 s.1 B
 hk:H dk=some (.dT km)
 mv:∀c,JT H (bh km (a8 c)) (s.2 c)
 len:km.length≤M
 sS:∀a,S a↔S1 a∨a=dk
 AB:¬S1 dk
 nx:¬S x
 ng:¬S g
 nt:∀a,S a→NT H a
def gQ(H:Hp)(C CG x tr:Addr)(W:Int)(S:Addr→Prop)(s:GS)(B M:Nat):Prop:=∃dx g dk km S1,JZ H C CG x tr W S s B M dx g dk km S1
theorem gQ.nt{H:Hp}{C CG x tr:Addr}{W:Int}{S:Addr→Prop}{s:GS}{B M:Nat}(G:gQ H C CG x tr W S s B M):∀a,S a→NT H a:=let ⟨_,_,_,_,_,D⟩:=G;D.nt
theorem gQ.same{H H':Hp}{C CG x tr:Addr}{W:Int}{S:Addr→Prop}{s:GS}{B M:Nat}(G:gQ H C CG x tr W S s B M)(t:ax H H'):gQ H' C CG x tr W S s B M:=by
 obtain⟨dx,g,dk,km,S1,D⟩:=G;exact⟨dx,g,dk,km,S1,t _ _ D.ob,D.gr.same t,t _ _ D.hk,fun c=>(D.mv c).cF (fg.same t),D.len,D.sS,D.AB,D.nx,D.ng,fun a h=>(D.nt a h).same t⟩
theorem gQ.out{H:Hp}{C CG x tr:Addr}{W:Int}{S:Addr→Prop}{s:GS}{B M:Nat}(G:gQ H C CG x tr W S s B M){a:Addr}(h:H a=none):¬S a:=fun z=>by
 obtain⟨o,e,_⟩:=G.nt a z;rw[h]at e;cases e
theorem gQ.cast{H:Hp}{C CG x tr:Addr}{W:Int}{S:Addr→Prop}{s s':GS}{B M B' M':Nat}(G:gQ H C CG x tr W S s B M)(h:s=s')(hB:B≤B')(hM:M≤M'):gQ H C CG x tr W S s' B' M':=by
 subst h;obtain⟨dx,g,dk,km,S1,D⟩:=G;exact⟨dx,g,dk,km,S1,D.ob,D.gr.iff (fun _ _=>Iff.rfl) hB,D.hk,D.mv,by have:=D.len;omega,D.sS,D.AB,D.nx,D.ng,D.nt⟩
section
variable{H H':Hp}{C CG x tr dx g dk:Addr}{W:Int}{S S1 J0:Addr→Prop}{s:GS}{B M B':Nat}{km:List (List Key×V)}
theorem JZ.Od(D:JZ H C CG x tr W S s B M dx g dk km S1){E':Pr→Pr→Prop}(u:nS S1 H J0 H')(G:jl H' CG g J0 E' B'):∃S' S2,nS S H S' H'∧JZ H' C CG x tr W S' (E',s.2) B' M dx g dk km S2:=by
 have s1:∀a,S1 a→S a:=fun a h=>(D.sS a).mpr (.inl h)
 have Vm:∀a,S1 a→NT H a:=fun a h=>D.nt a (s1 a h)
 have T:=u.cF Vm;have Dn:=u.keep dk _ D.AB D.hk;obtain⟨dg,dl,dm,kl,F1,ld,mm,og,_⟩:=id D.gr;have gone:∀{a o},¬S a→H a=some o→a≠dk→¬((J0 a∧NT H' a)∨a=dk):=fun{a o} h1 h2 h3 z=>by
  rcases z with z|z
  ·exact u.out (fun y=>h1 (s1 _ y)) h2 z.1
  ·exact h3 z
 have YD:S dk:=(D.sS dk).mpr (.inr rfl);refine⟨fun a=>(J0 a∧NT H' a)∨a=dk,fun a=>J0 a∧NT H' a,⟨fun a h=>?_,fun a o h e=>u.keep a o (fun z=>h (s1 a z)) e⟩,⟨u.keep x _ (fun z=>D.nx (s1 _ z)) D.ob,G.nt,Dn,fun c=>(D.mv c).cF T,D.len,fun a=>Iff.rfl,fun z=>u.out D.AB D.hk z.1,gone D.nx D.ob (fun z=>D.nx (by rw[z];exact YD)),gone D.ng og (fun z=>D.ng (by rw[z];exact YD)),fun a h=>?_⟩⟩
 ·rcases h with h|h
  ·exact(u.grow a h.1).imp (s1 a) id
  ·exact .inl (by rw[h];exact YD)
 ·rcases h with h|h
  ·exact h.2
  ·exact⟨_,by rw[h];exact Dn,fun v=>(XX)⟩
theorem JZ.put(D:JZ H C CG x tr W S s B M dx g dk km S1){c r:Pr}{t:Addr}(ht:H t=some (.tup (ju r))):nS S H S (upd H dk (.dT (putK km (a8 c) (.ref t))))∧JZ (upd H dk (.dT (putK km (a8 c) (.ref t)))) C CG x tr W S (s.1,fun y=>if y=c then some r else s.2 y) B (M+1) dx g dk (putK km (a8 c) (.ref t)) S1:=by
 have YD:S dk:=(D.sS dk).mpr (.inr rfl);have nx:x≠dk:=fun z=>D.nx (by rw[z];exact YD)
 have ng:g≠dk:=fun z=>D.ng (by rw[z];exact YD)
 have T:fg H (upd H dk (.dT (putK km (a8 c) (.ref t)))):=fun b v hb=>by
  rw[aj (fun z=>by rw[z,D.hk]at hb;cases hb)];exact hb
 refine⟨.put YD,⟨by rw[aj nx];exact D.ob,D.gr.keep (fun a o h e=>by rw[aj (fun z=>D.AB (by rw[←z];exact h))];exact e) T (fun o e=>by rw[aj ng];exact e),ae,fun y=>?_,Nat.le_trans (fE _ _ _) (by have:=D.len;omega),D.sS,D.AB,D.nx,D.ng,fun a h=>?_⟩⟩
 ·show JT _ _ (if y=c then some r else s.2 y);rw[jv];by_cases e:y=c
  ·rw[XH (by rw[e]),XH e];exact⟨t,rfl,T _ _ ht⟩
  ·rw[XE (fun z=>e (dB z)),XE e];exact(D.mv y).cF T
 ·by_cases e:a=dk
  ·exact⟨_,by rw[e];exact ae,fun v=>(XX)⟩
  ·obtain⟨o,h1,h2⟩:=D.nt a h;exact⟨o,by rw[aj e];exact h1,h2⟩
end
structure Base(H0 H:Hp)(S:Addr→Prop):Prop where
 same:ax H0 H
 free:∀a,S a→H0 a=none
theorem Base.ups{H0 H H':Hp}{S S':Addr→Prop}(b:Base H0 H S)(u:nS S H S' H'):Base H0 H' S':=by
 refine⟨fun a o h=>u.keep a o (fun z=>by rw[b.free a z]at h;cases h) (b.same a o h),fun a h=>?_⟩;rcases u.grow a h with z|z
 ·exact b.free a z
 ·exact b.same.free z
theorem Base.more{H0 H H':Hp}{S:Addr→Prop}(b:Base H0 H S)(s:ax H H'):Base H0 H' S:=⟨b.same.trans s,b.free⟩
inductive pR(C CG:Addr)(vs:List V)(H:Hp)(Q:VK)(u3:XK):Prop
 |mk (x dx tr:Addr) (W:Int) (_:vs=[.ref x, .ref tr, .int W]) (_:H x=some (.ins C dx [])) (_:∀H' S,SameBut x H H'→(∀a,S a→H a=none)→gQ H' C CG x tr W S (fun _ _=>False,fun _=>none) 0 0→Q .cJ H'):pR C CG vs H Q u3
inductive rX(C CG:Addr)(vs:List V)(H:Hp)(Q:VK)(u3:XK):Prop
 |mk (x tc tp tr:Addr) (W:Int) (c r:Pr) (S:Addr→Prop) (s:GS) (B M:Nat) (_:vs=[.ref x, .ref tc, .ref tp]) (_:gQ H C CG x tr W S s B M) (_:H tc=some (.tup (ju c))) (_:H tp=some (.tup (ju r))) (_:s.1 r r) (_:∀r0,s.2 c=some r0→s.1 r0 r0) (_:B≤10000) (_:M≤10000) (_:∀H' S',nS S H S' H'→gQ H' C CG x tr W S' (xF s c r) B (M+1)→Q .cJ H'):rX C CG vs H Q u3
inductive rY(C CG CT:Addr)(vs:List V)(H:Hp)(Q:VK)(u3:XK):Prop
 |mk (x tc tp tr dt e b:Addr) (es bs:List Addr) (f:Nat→Nat→Option Int) (o p:Int) (n m:Nat) (W:Int) (i j:Nat) (r:Pr) (S:Addr→Prop) (s:GS) (B M:Nat) (H0:Hp) (_:vs=[.ref x, .ref tc, .ref tp]) (_:gQ H C CG x tr W S s B M) (_:pN H0 CT tr dt e b es bs f o p n m) (_:Base H0 H S) (_:H tc=some (.tup (ju (aN (i+1,j+1))))) (_:H tp=some (.tup (ju (aN (i,j))))) (_:i<n) (_:j<m) (_:eJ f o p W) (_:gP f o p W s) (_:s.2 (aN (i+1,j+1))=some r) (_:B<10000) (_:M+2≤10000)
  (_:∀H' S',nS S H S' H'→gQ H' C CG x tr W S' (JW f o p i j s r) (B+1) (M+2)→Q .cJ H'):rY C CG CT vs H Q u3
inductive pS(C CG CT:Addr)(vs:List V)(H:Hp)(Q:VK)(u3:XK):Prop
 |mk (x tr dt e b:Addr) (es bs:List Addr) (f:Nat→Nat→Option Int) (o p:Int) (n m:Nat) (W:Int) (i j:Nat) (S:Addr→Prop) (s:GS) (B M:Nat) (H0:Hp) (_:vs=[.ref x, .int i, .int j]) (_:gQ H C CG x tr W S s B M) (_:pN H0 CT tr dt e b es bs f o p n m) (_:Base H0 H S) (_:i<n) (_:j<m) (_:n≤1000) (_:m≤1000) (_:eJ f o p W) (_:gP f o p W s) (_:B+2≤10000) (_:M+3≤10000)
  (_:∀H' S',nS S H S' H'→gQ H' C CG x tr W S' (X9 f o p W i j s) (B+2) (M+3)→Q .cJ H'):pS C CG CT vs H Q u3
inductive Yb(CT:Addr)(vs:List V)(H:Hp)(Q:VK)(u3:XK):Prop
 |mk (tr dt e b:Addr) (es bs:List Addr) (f:Nat→Nat→Option Int) (o p:Int) (n m:Nat) (W:Int) (_:vs=[.ref tr, .int W]) (_:pN H CT tr dt e b es bs f o p n m) (_:B8 f n m) (_:n*m≤3000) (_:n≤1000) (_:m≤1000) (_:eJ f o p W)
  (_:∀H' r us gs,ax H H'→H r=none→H' r=some (.lst us)→fN H' us gs→(∀(k:Nat) a,us[k]?=some (.ref a)→H a=none)→Told (gc f o p W) gs→Q (.ref r) H'):Yb CT vs H Q u3
structure Fd where
 worth:Int
 way:List Pr
 row:List Int
 pairs:List Pr
def AH(g:Pr→Option Int)(o p:Int)(ps:List Pr):List Int:=(List.range ps.length).map fun k=>vl g o p (ps.take (k+1))
theorem Ee(g:Pr→Option Int)(o p:Int)(ps:List Pr)(q:Pr):AH g o p (ps++[q])=AH g o p ps++[vl g o p (ps++[q])]:=by
 unfold AH;rw[List.length_append,List.length_singleton,List.range_succ,List.map_append]
 congr 1
 ·apply List.map_congr_left;intro k hk;have:k<ps.length:=by simpa using hk
  rw[List.take_append_of_le_length XQ]
 ·simp;rw[List.take_of_length_le XN]
structure MR(f:Nat→Nat→Option Int)(o p W:Int)(d:Fd):Prop where
 worth:d.worth=W
 way:BW f o p W d.way
 row:d.row=AH (lf f) o p d.way
 sub:∀q∈d.way,q∈d.pairs
def kq(f:Nat→Nat→Option Int)(ps:List Pr):Nat→Nat→Option Int:=fun i j=>if aN (i,j)∈ps then none else f i j
def Stop(f:Nat→Nat→Option Int)(o p least:Int):Prop:=∀ps,Wy (lf f) ps→vl (lf f) o p ps<least
structure lJ(f:Nat→Nat→Option Int)(o p least W:Int)(gs:List (List Pr))(ds:List Fd):Prop where
 top:eJ f o p W
 ex:∃ps,BW f o p W ps
 least:least≤W
 told:Told (gc f o p W) gs
 F2:ds.map Fd.pairs=gs
 ok:∀d∈ds,MR f o p W d
inductive Reach(f0:Nat→Nat→Option Int)(o p least:Int):List Fd→(Nat→Nat→Option Int)→Prop
 |start:Reach f0 o p least [] f0
 |round {done:List Fd} {f:Nat→Nat→Option Int} {W:Int} {gs:List (List Pr)} {ds:List Fd} (_:Reach f0 o p least done f) (_:lJ f o p least W gs ds):Reach f0 o p least (done++ds) (kq f gs.flatten)
theorem Ef{f:Nat→Nat→Option Int}{n m:Nat}(t:B8 f n m)(ps:List Pr):B8 (kq f ps) n m:=fun i j h=>t i j (by
 unfold kq at h;split at h
 ·cases h
 ·exact h)
theorem Reach.Qz{f0 f:Nat→Nat→Option Int}{o p least:Int}{ds:List Fd}{n m:Nat}(t:B8 f0 n m)(r:Reach f0 o p least ds f):B8 f n m:=by
 induction r with
 |start=>exact t
 |round _ _ ih=>exact Ef ih _
theorem rh(f:Nat→Nat→Option Int)(ps:List Pr)(q:Pr):lf (kq f ps) q=if q∈ps then none else lf f q:=by
 unfold lf kq;by_cases h:0≤q.1∧0≤q.2
 ·rw[XH h,XH h];have:aN (q.1.toNat,q.2.toNat)=q:=Prod.ext (by simp[aN];omega) (by simp[aN];omega);rw[this]
 ·rw[XE h,XE h];split<;>rfl
theorem gc.open{f:Nat→Nat→Option Int}{o p W:Int}{a b:Pr}(h:gc f o p W a b):(lf f a).isSome=true:=by
 obtain⟨ps,⟨w,_⟩,hm⟩:=h.on;exact w.ok a hm
theorem Told.mem{E:Pr→Pr→Prop}{gs:List (List Pr)}(t:Told E gs){ps:List Pr}(h:ps∈gs){a:Pr}(ha:a∈ps):E a a:=(t.cls ps h a ha a).mp ha
structure Apart(f0 f:Nat→Nat→Option Int)(ds:List Fd):Prop where
 sub:∀q,(lf f q).isSome=true→lf f q=lf f0 q
 shut:∀d∈ds,∀q∈d.pairs,lf f q=none∧(lf f0 q).isSome=true
 ap:ds.Pairwise fun a b=>∀q∈a.pairs,q∉b.pairs
 tq:∀d∈ds,d.pairs.Pairwise (fun p q=>jD p q=true)∧d.pairs≠[]
 gone:∀q,lf f q=none→(lf f0 q).isSome=true→∃d∈ds,q∈d.pairs
theorem Reach.apart{f0 f:Nat→Nat→Option Int}{o p least:Int}{ds:List Fd}(r:Reach f0 o p least ds f):Apart f0 f ds:=by
 induction r with
 |start=>exact⟨fun _ _=>rfl,fun d h=>(by cases h), .nil,fun d h=>(by cases h),fun q h1 h2=>by rw[h1]at h2;cases h2⟩
 |@round done f W gs ds r R ih=>
  have mem:∀d∈ds,d.pairs∈gs:=fun d h=>by rw[←R.F2];exact List.mem_map.mpr ⟨d,h,rfl⟩
  have op:∀d∈ds,∀q∈d.pairs,(lf f q).isSome=true:=fun d h q hq=>(R.told.mem (mem d h) hq).open
  refine⟨fun q h=>?_,fun d h q hq=>?_,?_,fun d h=>?_,fun q h1 h2=>?_⟩
  ·rw[rh]at h⊢;split at h
   ·cases h
   ·rename_i hn
    rw[XE hn];exact ih.sub q h
  ·rw[rh];rcases List.mem_append.mp h with h|h
   ·obtain⟨h1,h2⟩:=ih.shut d h q hq;exact⟨by split;rfl;exact h1,h2⟩
   ·rw[XH (List.mem_flatten.mpr ⟨_,mem d h,hq⟩)];have:=op d h q hq;exact⟨rfl,by rw[←ih.sub q this];exact this⟩
  ·refine List.pairwise_append.mpr ⟨ih.ap,?_,fun a ha b hb q hq KH=>?_⟩
   ·have:=R.told.apart;rw[←R.F2,List.pairwise_map]at this;exact this
   ·have h1:=(ih.shut a ha q hq).1;have h2:=op b hb q KH;rw[h1]at h2;cases h2
  ·rcases List.mem_append.mp h with h|h
   ·exact ih.tq d h
   ·exact⟨R.told.tq _ (mem d h),R.told.ne _ (mem d h)⟩
  ·rw[rh]at h1;by_cases hm:q∈gs.flatten
   ·obtain⟨ps,Bw,hq⟩:=List.mem_flatten.mp hm;rw[←R.F2]at Bw;obtain⟨d,hd,rfl⟩:=List.mem_map.mp Bw;exact⟨d,List.mem_append_right _ hd,hq⟩
   ·rw[XE hm]at h1;obtain⟨d,hd,hq⟩:=ih.gone q h1 h2;exact⟨d,List.mem_append_left _ hd,hq⟩
theorem rZ(f:Nat→Nat→Option Int)(o p:Int):∀i j v,Bq f o p i j=some v→∃e,dh f o p (cD f o p i j).1 (cD f o p i j).2=some e∧v=e-(o*((i:Int)-1-(cD f o p i j).1)+p*((j:Int)-1-(cD f o p i j).2))
 |0,j,v,h=>by rw[hU]at h;cases h
 |i+1,0,v,h=>by unfold Bq at h;cases h
 |i+1,j+1,v,hB=>by
  unfold cD;by_cases h1:dh f o p i j=Bq f o p (i+1) (j+1)
  ·rw[XH h1];refine⟨v,by rw[h1,hB],?_⟩;have e1:((i+1:Nat):Int)-1-((i,j).1:Int)=0:=by show((i+1:Nat):Int)-1-(i:Int)=0;omega
   have e2:((j+1:Nat):Int)-1-((i,j).2:Int)=0:=by show((j+1:Nat):Int)-1-(j:Int)=0;omega
   rw[e1,e2,Int.mul_zero,Int.mul_zero];omega
  ·rw[XE h1];by_cases h2:bq (Bq f o p i (j+1)) o=Bq f o p (i+1) (j+1)
   ·rw[XH h2];cases e:Bq f o p i (j+1)with
    |none=>rw[e,hB]at h2;cases h2
    |some v2=>
     rw[e,hB]at h2;have h2:v2-o=v:=by simpa[bq]using h2
     obtain⟨x,hx,hv⟩:=rZ f o p i (j+1) v2 e;refine⟨x,hx,?_⟩;have e1:((i+1:Nat):Int)-1-((cD f o p i (j+1)).1:Int)=((i:Int)-1-(cD f o p i (j+1)).1)+1:=XT;rw[e1,Int.mul_add];omega
   ·rw[XE h2];have e0:Bq f o p (i+1) (j+1)=nJ [dh f o p i j,bq (Bq f o p i (j+1)) o,bq (Bq f o p (i+1) j) p]:=by rw[Bq];rfl
    have key:∀a b c:Option Int,nJ [a,b,c]≠a→nJ [a,b,c]≠b→c=nJ [a,b,c]:=fun a b c=>by
     cases a<;>cases b<;>cases c<;>simp[nJ]<;>omega
    have h3:bq (Bq f o p (i+1) j) p=Bq f o p (i+1) (j+1):=by
     rw[e0];exact key _ _ _ (fun z=>h1 (by rw[e0];exact z.symm)) (fun z=>h2 (by rw[e0];exact z.symm))
    cases e:Bq f o p (i+1) j with
    |none=>rw[e,hB]at h3;cases h3
    |some v2=>
     rw[e,hB]at h3;have h3:v2-p=v:=by simpa[bq]using h3
     obtain⟨x,hx,hv⟩:=rZ f o p (i+1) j v2 e;refine⟨x,hx,?_⟩;have e1:((j+1:Nat):Int)-1-((cD f o p (i+1) j).2:Int)=((j:Int)-1-(cD f o p (i+1) j).2)+1:=XT;rw[e1,Int.mul_add];omega
termination_by i j=>(i,j)
theorem F3(f:Nat→Nat→Option Int)(o p:Int):∀(k i j:Nat)(v:Int),i≤k→dh f o p i j=some v→Wy (lf f) ((dZ f o p i i j).map aN)∧lstP ((dZ f o p i i j).map aN)=aN (i,j)∧vl (lf f) o p ((dZ f o p i i j).map aN)=v∧(dZ f o p i i j).map (fun q=>dh f o p q.1 q.2)=(AH (lf f) o p ((dZ f o p i i j).map aN)).map some:=by
 intro k
 induction k with
 |zero=>
  intro i j v hi he;have:i=0:=XT;subst this;rw[gu (fun h=>by rw[hU]at h;cases h)];have hw:f 0 j=some v:=by
   unfold dh at he;rw[hU]at he;cases e:f 0 j with
   |none=>rw[e]at he;cases he
   |some w=>rw[e]at he;exact he
  have hl:lf f (aN (0,j))=some v:=by rw[←hw];exact pL f 0 j
  refine⟨.one (by rw[hl];rfl),rfl,by simp[vl,hl],?_⟩;simp[AH,vl,hl,he]
 |succ k ih=>
  intro i j v hi he;by_cases hg:gh (Bq f o p i j)=true
  ·obtain⟨a1,a2,a3⟩:=jE hg;obtain⟨l1,l2⟩:=(jZ f o p i j a1 a2).resolve_right a3;rw[uF hg,List.map_append,List.map_append];cases eb:Bq f o p i j with
   |none=>exact absurd eb a3
   |some b=>
    obtain⟨x,hx,hb⟩:=rZ f o p i j b eb;obtain⟨w1,w2,w3,w4⟩:=ih _ _ x (XT) hx;have W0:0≤b:=by rw[eb]at hg;simpa[gh]using hg
    have hw:∃w,f i j=some w∧v=w+b:=by
     unfold dh at he;rw[eb]at he;cases e:f i j with
     |none=>rw[e]at he;cases he
     |some w=>
      rw[e]at he;simp only[FA,show ¬b<0 by omega,if_false,Option.some.injEq]at he;exact⟨w,rfl,XT⟩
    obtain⟨w,hw,hv⟩:=hw;have hl:lf f (aN (i,j))=some w:=by rw[←hw];exact pL f i j
    have st:X5 (lstP ((dZ f o p (cD f o p i j).1 (cD f o p i j).1 (cD f o p i j).2).map aN)) (aN (i,j)):=by
     rw[w2];exact⟨by simp[aN];omega,by simp[aN];omega⟩
    have ev:vl (lf f) o p ((dZ f o p (cD f o p i j).1 (cD f o p i j).1 (cD f o p i j).2).map aN++[aN (i,j)])=v:=by
     rw[nL _ _ _ w1.ne,w2,w3,hl];simp only[gp,Option.getD_some];have e1:(aN (i,j)).1-(aN ((cD f o p i j).1,(cD f o p i j).2)).1-1=(i:Int)-1-(cD f o p i j).1:=by show(i:Int)-((cD f o p i j).1:Int)-1=_;omega
     have e2:(aN (i,j)).2-(aN ((cD f o p i j).1,(cD f o p i j).2)).2-1=(j:Int)-1-(cD f o p i j).2:=by show(j:Int)-((cD f o p i j).2:Int)-1=_;omega
     rw[e1,e2];omega
    refine⟨w1.snoc (by rw[hl];rfl) st,dA,ev,?_⟩;show _++[dh f o p i j]=(AH (lf f) o p (_++[aN (i,j)])).map some;rw[Ee,List.map_append,w4,he];show _++[some v]=_++[some _];rw[ev]
  ·rw[gu hg];have hw:f i j=some v:=by
    unfold dh at he;cases e:f i j with
    |none=>rw[e]at he;cases he
    |some w=>
     rw[e]at he;cases eb:Bq f o p i j with
     |none=>rw[eb]at he;exact he
     |some b=>
      rw[eb]at he hg;have:b<0:=by
       have:¬0≤b:=fun z=>hg (by simpa[gh]using z)
       omega
      simp only[FA,this,if_true]at he;exact he
   have hl:lf f (aN (i,j))=some v:=by rw[←hw];exact pL f i j
   refine⟨.one (by rw[hl];rfl),rfl,by simp[vl,hl],?_⟩;simp[AH,vl,hl,he]
def F5(f:Nat→Nat→Option Int)(o p:Int)(n m:Nat):Option Int:=nJ ((List.range n).map fun i=>nJ ((List.range m).map (dh f o p i)))
theorem Eh{f:Nat→Nat→Option Int}{n m:Nat}(t:B8 f n m)(o p:Int):fF (fun v=>∃ps,Wy (lf f) ps∧v=vl (lf f) o p ps) (F5 f o p n m):=by
 refine(jX _).RY (fun v hv=>?_) (fun v hv=>?_)
 ·obtain⟨i,_,h2⟩:=List.mem_map.mp hv;have h3:=jX ((List.range m).map (dh f o p i));rw[h2]at h3;obtain⟨j,_,h4⟩:=List.mem_map.mp h3.1;obtain⟨as,a1,_,a3⟩:=lH h4;exact⟨as,a1,a3.symm⟩
 ·obtain⟨ps,w,rfl⟩:=hv;obtain⟨i,j,hl,hi,hj⟩:=jm t w (cV w.ne);obtain⟨b,hb,hle⟩:=vH (o:=o) (p:=p) w hl;have h3:=jX ((List.range m).map (dh f o p i));have m3:some b∈(List.range m).map (dh f o p i):=List.mem_map.mpr ⟨j,by simpa using hj,hb⟩;cases e:nJ ((List.range m).map (dh f o p i))with
  |none=>rw[e]at h3;exact absurd m3 (h3 b)
  |some u=>
   rw[e]at h3;refine⟨u,List.mem_map.mpr ⟨i,by simpa using hi,e⟩,?_⟩;have:=h3.2 b m3;omega
theorem BH{f:Nat→Nat→Option Int}{o p W:Int}(T:eJ f o p W){n m:Nat}(t:B8 f n m){a b:Pr}(h:gc f o p W a b):∃i j:Nat,dh f o p i j=some W∧i<n∧j<m∧gc f o p W a (aN (i,j)):=by
 obtain⟨ps,w,hm⟩:=h.on;obtain⟨i,j,hl,hi,hj⟩:=jm t w.1 (cV w.1.ne);obtain⟨v,hb,hle⟩:=vH (o:=o) (p:=p) w.1 hl;obtain⟨as,a1,_,a3⟩:=lH hb;have:=T _ a1;have hW:=w.2;refine⟨i,j,by rw[hb];congr 1;omega,hi,hj, .way ps w hm ?_⟩;rw[←hl];exact cV w.1.ne
def vI(n m:Nat):List Pr:=(List.range n).flatMap fun i=>(List.range m).map fun j=>aN (i,j)
theorem r6(n m:Nat):(vI n m).length=n*m:=by
 unfold vI
 induction n with
 |zero=>simp
 |succ n ih=>
  rw[List.range_succ,List.flatMap_append,List.length_append,ih,Nat.succ_mul];simp
theorem r9{n m i j:Nat}(hi:i<n)(hj:j<m):aN (i,j)∈vI n m:=List.mem_flatMap.mpr ⟨i,by simpa using hi,List.mem_map.mpr ⟨j,by simpa using hj,rfl⟩⟩
theorem Told.XY{E:Pr→Pr→Prop}{gs:List (List Pr)}{n m:Nat}(t:Told E gs)(h:∀g∈gs,∀a∈g,∃i j:Nat,a=aN (i,j)∧i<n∧j<m):gs.length≤n*m:=by
 have hf:∀g∈gs,lQ g∈g:=fun g hg=>by
  cases e:g with
  |nil=>exact absurd e (t.ne g hg)
  |cons a r=>simp[lQ]
 have:=len_sub (gs.map lQ) (vI n m) (List.pairwise_map.mpr (List.Pairwise.imp_of_mem (fun{a b} ha hb D1 e=>D1 (lQ a) (hf a ha) (by rw[e];exact hf b hb)) t.apart)) fun x hx=>by
  obtain⟨g,hg,rfl⟩:=List.mem_map.mp hx;obtain⟨i,j,e,hi,hj⟩:=h g hg _ (hf g hg);rw[e];exact r9 hi hj
 rw[List.length_map,r6]at this;exact this
structure xG(P:Addr→Prop)(H:Hp)(CF a:Addr)(d:Fd)(dy wy rw pr:Addr)(rg jF:List V):Prop where
 ob:H a=some (.ins CF dy (qk d.worth wy rw pr))
 hw:H wy=some (.lst rg)
 pw:eG H rg d.way
 hr:H rw=some (.lst (d.row.map V.int))
 hp:H pr=some (.lst jF)
 pp:eG H jF d.pairs
 fa:P a
 fw:P wy
 fr:P rw
 fp:P pr
def cw(P:Addr→Prop)(H:Hp)(CF:Addr)(us:List V)(ds:List Fd):Prop:=us.length=ds.length∧∀(k:Nat) d,ds[k]?=some d→∃a dy wy rw pr rg jF,us[k]?=some (V.ref a)∧xG P H CF a d dy wy rw pr rg jF
theorem xG.keep{P P':Addr→Prop}{H H':Hp}{CF a:Addr}{d:Fd}{dy wy rw pr:Addr}{rg jF:List V}(F:xG P H CF a d dy wy rw pr rg jF)(h:∀b o,P b→H b=some o→H' b=some o)(t:fg H H')(hP:∀b,P b→P' b):xG P' H' CF a d dy wy rw pr rg jF:=
 ⟨h _ _ F.fa F.ob,h _ _ F.fw F.hw,F.pw.cF t,h _ _ F.fr F.hr,h _ _ F.fp F.hp,F.pp.cF t,hP _ F.fa,hP _ F.fw,hP _ F.fr,hP _ F.fp⟩
theorem cw.keep{P P':Addr→Prop}{H H':Hp}{CF:Addr}{us:List V}{ds:List Fd}(F:cw P H CF us ds)(h:∀b o,P b→H b=some o→H' b=some o)(t:fg H H')(hP:∀b,P b→P' b):cw P' H' CF us ds:=
 ⟨F.1,fun k d e=>let ⟨a,dy,wy,rw,pr,rg,jF,h1,h2⟩:=F.2 k d e;⟨a,dy,wy,rw,pr,rg,jF,h1,h2.keep h t hP⟩⟩
theorem cw.nil{P:Addr→Prop}{H:Hp}{CF:Addr}:cw P H CF [] []:=⟨rfl,fun k d e=>by simp at e⟩
theorem cw.append{P:Addr→Prop}{H:Hp}{CF:Addr}{us vs:List V}{ds es:List Fd}(F:cw P H CF us ds)(G:cw P H CF vs es):cw P H CF (us++vs) (ds++es):=by
 refine⟨by rw[List.length_append,List.length_append,F.1,G.1],fun k d e=>?_⟩;by_cases hk:k<ds.length
 ·rw[List.getElem?_append_left hk]at e;rw[List.getElem?_append_left (by rw[F.1];exact hk)];exact F.2 k d e
 ·rw[List.getElem?_append_right XQ]at e;rw[List.getElem?_append_right (by rw[F.1];omega),F.1];exact G.2 _ d e
inductive r_(CT:Addr)(vs:List V)(H:Hp)(Q:VK)(u3:XK):Prop
 |mk (f g t:Addr) (v:V) (c:Case) (shut:List Pr) (_:vs=[.ref f, .ref g, .ref t,v]) (_:H f=some (.lst (c.xs.map V.str))) (_:H g=some (.lst (c.ys.map V.str))) (_:Y6 H CT t c) (_:Du H v shut) (_:shut.length≤1000) (_:c.xs.length≤1000) (_:c.ys.length≤1000) (_:∀H' e as,ax H H'→H' e=some (.lst (as.map V.ref))→H e=none→iI H' as (kx c shut) c.xs.length c.ys.length→as.Nodup→e∉as→(∀a∈as,H a=none)→Q (.ref e) H'):r_ CT vs H Q u3
inductive nV(CT CF:Addr)(vs:List V)(H:Hp)(Q:VK)(u3:XK):Prop
 |mk (w t:Addr) (as:List Addr) (c:Case) (f:Nat→Nat→Option Int) (n m:Nat) (_:vs=[.ref w, .ref t]) (_:H w=some (.lst (as.map V.ref))) (_:iI H as f n m) (_:Y6 H CT t c) (_:B8 f n m) (_:n*m≤3000) (_:n≤1000) (_:m≤1000)
  (_:Stop f c.out c.into c.least→∀H' r,ax H H'→H r=none→H' r=some (.lst [])→Q (.ref r) H')
  (_:∀W gs ds,lJ f c.out c.into c.least W gs ds→gs≠[]→∀H' r us,ax H H'→H r=none→H' r=some (.lst us)→cw (fun b=>H b=none) H' CF us ds→Q (.ref r) H'):nV CT CF vs H Q u3
inductive sf(CF:Addr)(vs:List V)(H:Hp)(Q:VK)(u3:XK):Prop
 |mk (w md:Addr) (as:List Addr) (us:List V) (ds:List Fd) (f:Nat→Nat→Option Int) (n m:Nat) (_:vs=[.ref w, .ref md]) (_:H w=some (.lst (as.map V.ref))) (_:as.Nodup) (_:w∉as) (_:iI H as f n m) (_:H md=some (.lst us)) (_:md∉as) (_:cw (fun b=>b∉as) H CF us ds) (_:∀d∈ds,∀q∈d.pairs,∃i j:Nat,q=aN (i,j)∧i<n∧j<m)
  (_:∀H',(∀b o,b∉as→H b=some o→H' b=some o)→fg H H'→iI H' as (kq f (ds.map Fd.pairs).flatten) n m→Q .cJ H'):sf CF vs H Q u3
def MS(a b:Fd):Bool:=if a.worth=b.worth then jD (lQ a.pairs) (lQ b.pairs)else decide (b.worth<a.worth)
structure sg(f0:Nat→Nat→Option Int)(o p least:Int)(es:List Fd):Prop where
 Vn:∃ds f,Reach f0 o p least ds f∧Stop f o p least∧es.Perm ds
 XY:es.length≤20
 tq:es.Pairwise fun a b=>MS a b=true
inductive vJ(CT CF CX:Addr)(vs:List V)(H:Hp)(Q:VK)(E:XK):Prop
 |mk (a b t:Addr) (c:Case) (_:vs=[.ref a, .ref b, .ref t]) (_:H a=some (.lst (c.xs.map V.str))) (_:H b=some (.lst (c.ys.map V.str))) (_:Y6 H CT t c) (_:c.xs.length≤50) (_:c.ys.length≤50)
  (_:∀es,sg (kx c []) c.out c.into c.least es→∀H' r us,ax H H'→H r=none→H' r=some (.lst us)→cw (fun b=>H b=none) H' CF us es→Q (.ref r) H')
  (_:∀ds f,Reach (kx c []) c.out c.into c.least ds f→20<ds.length→∀H',ax H H'→E (.ref CX) none H'):vJ CT CF CX vs H Q E
def Ei(c:Case)(i m:Nat):Nat:=((List.range m).filter fun j=>(c.pw (aN (i,j))).isSome).length
def manyN(c:Case):Nat→Nat
 |0=>0
 |n+1=>manyN c n+Ei c n c.ys.length
theorem BI(c:Case)(i m:Nat):Ei c i (m+1)=Ei c i m+if (c.pw (aN (i,m))).isSome=true then 1 else 0:=by
 unfold Ei;rw[List.range_succ,List.filter_append,List.length_append]
 congr 1
 by_cases h:(c.pw (aN (i,m))).isSome=true
 ·rw[XH h,List.filter_cons,XH h];rfl
 ·rw[XE h,List.filter_cons,XE h];rfl
theorem si(c:Case):∀n,((vI n c.ys.length).filter fun q=>(c.pw q).isSome).length=manyN c n
 |0=>rfl
 |n+1=>by
  unfold vI;rw[List.range_succ,List.flatMap_append,List.filter_append,List.length_append];have ih:=si c n;unfold vI at ih;rw[ih,manyN]
  congr 1
  simp only[List.flatMap_cons,List.flatMap_nil,List.append_nil];rw[List.filter_map,List.length_map];rfl
def bO(c:Case):Nat:=manyN c c.xs.length/21+1
def d7(c:Case):Int:=min c.same (999999/(bO c:Int))
def bC(c:Case):Case:={c with same:=d7 c,least:=max c.least (((bO c:Int)-1)*d7 c+1)}
theorem Zt(s t:Int)(fs:List Form)(x y:Str):(dz s fs x y).isSome=(dz t fs x y).isSome:=by
 unfold dz;split
 ·rfl
 ·simp
theorem BJ(c:Case)(q:Pr):((bC c).pw q).isSome=(c.pw q).isSome:=by
 unfold Case.pw;show((wd c.xs q.1).bind fun x=>(wd c.ys q.2).bind fun y=>dz (bC c).same c.fs x y).isSome=_;cases wd c.xs q.1 with
 |none=>rfl
 |some x=>
  cases wd c.ys q.2 with
  |none=>rfl
  |some y=>exact Zt _ _ _ _ _
theorem BK{fs:List Form}(g:bI fs=true){x y:Str}{p:Int}(h:dJ fs x y=some p):0≤p:=by
 unfold dJ at h;cases e:fs.find? fun f=>decide (f.1=x∧f.2.1=y)with
 |none=>rw[e]at h;cases h
 |some f=>
  rw[e]at h;have h:f.2.2=p:=by simpa using h
  have hm:=List.mem_of_find?_eq_some e;simp only[bI,Bool.and_eq_true,List.all_eq_true]at g;have:=g.1.2 f hm;simp only[B7,gU,inR,Bool.and_eq_true,decide_eq_true_eq]at this;omega
theorem pw_le{c:Case}(g:bI c.fs=true){q:Pr}{w:Int}(h:c.pw q=some w):w≤c.same:=by
 unfold Case.pw at h;cases e1:wd c.xs q.1 with
 |none=>rw[e1]at h;cases h
 |some x=>
  cases e2:wd c.ys q.2 with
  |none=>rw[e1,e2]at h;cases h
  |some y=>
   rw[e1,e2]at h;have h:dz c.same c.fs x y=some w:=h;unfold dz at h;split at h
   ·cases h;exact Int.le_refl _
   ·cases e3:dJ c.fs x y with
    |none=>rw[e3]at h;cases h
    |some p=>
     rw[e3]at h;have h:c.same-p=w:=by simpa using h
     have:=BK g e3;omega
theorem AI(c:Case)(n:Nat):manyN c n≤n*c.ys.length:=by
 rw[←si,←r6];exact List.length_filter_le _ _
theorem AJ{m:Nat}{c:Case}(k:gW m c)(hm:m≤60):gW m (bC c):=by
 have h1:manyN c c.xs.length≤3600:=by
  have:=AI c c.xs.length;have h2:=Nat.mul_le_mul (Nat.le_trans k.x hm) (Nat.le_trans k.y hm);omega
 have he:(1:Int)≤bO c∧(bO c:Int)≤172:=by unfold bO;omega
 have hq:(bO c:Int)*(999999/(bO c:Int))≤999999:=by
  have:=Int.mul_ediv_self_le (x:=999999) (k:=(bO c:Int)) (XT);exact this
 have QA:1≤999999/(bO c:Int):=by
  have:(172:Int)≤999999:=XU;exact(Int.le_ediv_iff_mul_le XQ).mpr XQ
 have hs:=k.same;have hl:=k.least;have s1:1≤d7 c∧d7 c≤999999∧d7 c≤999999/(bO c:Int):=by unfold d7;omega
 refine⟨k.x,k.y,k.good,⟨s1.1,s1.2.1⟩,k.out,k.into,?_⟩;show 1≤max c.least (((bO c:Int)-1)*d7 c+1)∧max c.least (((bO c:Int)-1)*d7 c+1)≤999999;have h3:((bO c:Int)-1)*d7 c+1≤999999:=by
  have h4:(bO c:Int)*d7 c≤(bO c:Int)*(999999/(bO c:Int)):=Int.mul_le_mul_of_nonneg_left s1.2.2 XQ;rw[Int.sub_mul];omega
 omega
theorem iK{g g':Pr→Option Int}(o p:Int):∀{ps:List Pr},(∀q∈ps,g q=g' q)→vl g o p ps=vl g' o p ps
 |[],_=>rfl
 |[a],h=>by simp only[vl];rw[h a (XX)]
 |a::b::r,h=>by
  have ih:=iK (g:=g) (g':=g') o p (ps:=b::r) fun q hq=>h q (by simp[hq])
  simp only[vl];rw[ih,h a (XX)]
theorem BL{g g':Pr→Option Int}(o p:Int){ps:List Pr}(h:∀q∈ps,g q=g' q):AH g o p ps=AH g' o p ps:=by
 unfold AH;apply List.map_congr_left;intro k _;exact iK o p fun q hq=>h q (List.mem_of_mem_take hq)
theorem Wy.congr{g g':Pr→Option Int}{ps:List Pr}(w:Wy g ps)(h:∀q∈ps,g q=g' q):Wy g' ps:=⟨w.ne,fun q hq=>by rw[←h q hq];exact w.ok q hq,w.up⟩
theorem J1{o p:Int}(ho:0≤o)(hp:0≤p){a b:Pr}(s:X5 a b):0≤gp o p a b:=by
 have h1:=s.1;have h2:=s.2;have:=Int.mul_nonneg ho (show 0≤b.1-a.1-1 by omega);have:=Int.mul_nonneg hp (show 0≤b.2-a.2-1 by omega);unfold gp;omega
theorem Hn{g:Pr→Option Int}{o p S:Int}(ho:0≤o)(hp:0≤p):∀{ps:List Pr},ps.Pairwise X5→(∀q∈ps,∃w,g q=some w∧w≤S)→vl g o p ps≤ps.length*S
 |[],_,_=>by simp[vl]
 |[a],_,h=>by
  obtain⟨w,h1,h2⟩:=h a (XX);simp[vl,h1,h2]
 |a::b::r,hs,h=>by
  have l7:=List.pairwise_cons.mp hs;have ih:=Hn ho hp l7.2 fun q hq=>h q (by simp[hq])
  obtain⟨w,h1,h2⟩:=h a (XX);have:=J1 ho hp (l7.1 b (XX));simp only[vl,h1,Option.getD_some];have e:((a::b::r).length:Int)*S=((b::r).length:Int)*S+S:=by
   rw[List.length_cons (as:=b::r),Int.natCast_add,Int.add_mul];simp
  rw[e];omega
structure QB(f0:Nat→Nat→Option Int)(o p least:Int)(d:Fd):Prop where
 way:Wy (lf f0) d.way
 worth:vl (lf f0) o p d.way=d.worth
 least:least≤d.worth
 row:d.row=AH (lf f0) o p d.way
 sub:∀q∈d.way,q∈d.pairs
 tq:d.pairs.Pairwise fun p q=>jD p q=true
 op:∀q∈d.pairs,(lf f0 q).isSome=true
 part:∀a b,d.way=a++b→a≠[]→b≠[]→vl (lf f0) o p a≤d.worth∧vl (lf f0) o p b≤d.worth
theorem Reach.J2{f0 f:Nat→Nat→Option Int}{o p least:Int}{ds:List Fd}(r:Reach f0 o p least ds f):∀d∈ds,QB f0 o p least d:=by
 induction r with
 |start=>exact fun d h=>by cases h
 |@round done f W gs ds r R ih=>
  intro d hd;rcases List.mem_append.mp hd with hd|hd
  ·exact ih d hd
  have ap:=r.apart;have k:=R.ok d hd;have hg:d.pairs∈gs:=by rw[←R.F2];exact List.mem_map.mpr ⟨d,hd,rfl⟩
  have cg:∀q∈d.way,lf f q=lf f0 q:=fun q hq=>ap.sub q (k.way.1.ok q hq)
  refine⟨k.way.1.congr cg,?_,by rw[k.worth];exact R.least,by rw[k.row];exact BL o p cg,k.sub,R.told.tq _ hg,fun q hq=>?_,fun a b e ha hb=>?_⟩
  ·rw[←iK o p cg,k.way.2,k.worth]
  ·have:=(R.told.mem hg hq).open;rw[←ap.sub q this];exact this
  ·have w:=k.way.1;rw[e]at w;rw[←iK o p (fun q hq=>cg q (by rw[e];exact List.mem_append_left _ hq)),←iK o p (fun q hq=>cg q (by rw[e];exact List.mem_append_right _ hq)),k.worth];exact⟨R.top _ (w.left ha),R.top _ (w.right hb)⟩
theorem Reach.met{f0 f:Nat→Nat→Option Int}{o p least:Int}{ds:List Fd}(r:Reach f0 o p least ds f){ws:List Pr}(w:Wy (lf f0) ws):(∀q∈ws,(lf f q).isSome=true)∨∃d∈ds,vl (lf f0) o p ws≤d.worth∧∃q∈ws,q∈d.pairs:=by
 induction r with
 |start=>exact .inl w.ok
 |@round done f W gs ds r R ih=>
  rcases ih with h|⟨d,h1,h2⟩
  ·have ap:=r.apart;by_cases hm:∃q∈ws,q∈gs.flatten
   ·obtain⟨q,hq,hg⟩:=hm;obtain⟨g,Sk,QC⟩:=List.mem_flatten.mp hg;rw[←R.F2]at Sk;obtain⟨d,hd,rfl⟩:=List.mem_map.mp Sk;refine .inr ⟨d,List.mem_append_right _ hd,?_,q,hq,QC⟩;have cg:∀q∈ws,lf f0 q=lf f q:=fun q hq=>(ap.sub q (h q hq)).symm
    rw[iK o p cg,(R.ok d hd).worth];exact R.top _ (w.congr cg)
   ·refine .inl fun q hq=>?_
    rw[rh,XE (fun z=>hm ⟨q,hq,z⟩)];exact h q hq
  ·exact .inr ⟨d,List.mem_append_left _ h1,h2⟩
theorem sg.met{f0:Nat→Nat→Option Int}{o p least:Int}{es:List Fd}(t:sg f0 o p least es){ws:List Pr}(w:Wy (lf f0) ws)(h:least≤vl (lf f0) o p ws):∃d∈es,vl (lf f0) o p ws≤d.worth∧∃q∈ws,q∈d.pairs:=by
 obtain⟨ds,f,r,st,pm⟩:=t.Vn;rcases r.met w with z|⟨d,h1,h2⟩
 ·exfalso;have cg:∀q∈ws,lf f0 q=lf f q:=fun q hq=>(r.apart.sub q (z q hq)).symm
  have:=st ws (w.congr cg);rw[←iK o p cg]at this;omega
 ·exact⟨d,pm.mem_iff.mpr h1,h2⟩
theorem Ej{l:List (List Pr)}{k:Nat}(h:∀x∈l,k≤x.length):l.length*k≤l.flatten.length:=by
 induction l with
 |nil=>simp
 |cons a r ih=>
  have h1:=h a (XX);have h2:=ih fun x hx=>h x (by simp[hx])
  rw[List.flatten_cons,List.length_append,List.length_cons,Nat.succ_mul];omega
theorem sj:∀{ds:List Fd},ds.Pairwise (fun a b=>∀q∈a.pairs,q∉b.pairs)→(∀d∈ds,d.pairs.Nodup)→(ds.map Fd.pairs).flatten.Nodup
 |[],_,_=>XX
 |d::r,h,h2=>by
  have h':=List.pairwise_cons.mp h;rw[List.map_cons,List.flatten_cons];refine List.nodup_append.mpr ⟨h2 d (XX),sj h'.2 fun x hx=>h2 x (by simp[hx]),fun a ha b hb e=>?_⟩;obtain⟨ps,hp,hq⟩:=List.mem_flatten.mp hb;obtain⟨x,hx,rfl⟩:=List.mem_map.mp hp;exact h'.1 x hx a ha (by rw[e];exact hq)
theorem BM{ps:List Pr}(h:ps.Pairwise fun p q=>jD p q=true):ps.Nodup:=h.imp fun{a b} h e=>by
 rw[e]at h;unfold jD at h;simp at h
theorem Ek(c:Case)(q:Pr):lf (kx c []) q=c.pw q:=by
 rw[Yi];simp[uz]
theorem El{m:Nat}{c:Case}(k:gW m (bC c)){ds:List Fd}{f:Nat→Nat→Option Int}(r:Reach (kx (bC c) []) (bC c).out (bC c).into (bC c).least ds f):ds.length≤20:=by
 have each:∀d∈ds,bO c≤d.pairs.length:=fun d hd=>by
  have F:=r.J2 d hd;have h1:=Hn (g:=lf (kx (bC c) [])) (S:=(bC c).same) k.out.1 k.into.1 F.way.up fun q hq=>by
   obtain⟨w,hw⟩:=Option.isSome_iff_exists.mp (F.way.ok q hq);refine⟨w,hw,?_⟩;rw[Ek]at hw;exact pw_le k.good hw
  rw[F.worth]at h1;have h2:=F.least;have h3:((bO c:Int)-1)*d7 c+1≤(bC c).least:=by show _≤max c.least _;omega
  have hs:1≤d7 c:=k.same.1;have h4:((bO c:Int)-1)*d7 c<(d.way.length:Int)*d7 c:=by
   have:(bC c).same=d7 c:=rfl;rw[this]at h1;omega
  have h5:(bO c:Int)-1<(d.way.length:Int):=Int.lt_of_mul_lt_mul_right h4 XQ;have h6:=len_sub d.way d.pairs (F.way.up.imp fun{a b} h e=>by
   rw[e]at h;have:=h.1;omega) F.sub
  omega
 have h1:=Ej (l:=ds.map Fd.pairs) (k:=bO c) fun x hx=>by
  obtain⟨d,hd,rfl⟩:=List.mem_map.mp hx;exact each d hd
 have h2:=sj r.apart.ap fun d hd=>BM (r.J2 d hd).tq
 have h3:=len_sub _ ((vI c.xs.length c.ys.length).filter fun q=>(c.pw q).isSome) h2 fun q hq=>by
  obtain⟨ps,hp,hq⟩:=List.mem_flatten.mp hq;obtain⟨d,hd,rfl⟩:=List.mem_map.mp hp;have:=(r.J2 d hd).op q hq;rw[Ek,BJ]at this;refine List.mem_filter.mpr ⟨?_,this⟩;obtain⟨w,hw⟩:=Option.isSome_iff_exists.mp this;obtain⟨⟨a1,a2⟩,a3,a4⟩:=c.pw_in hw;have:=r9 (n:=c.xs.length) (m:=c.ys.length) (i:=q.1.toNat) (j:=q.2.toNat) (XT) (XT);have e:aN (q.1.toNat,q.2.toNat)=q:=Prod.ext (by simp[aN];omega) (by simp[aN];omega);rw[e]at this;exact this
 rw[si]at h3;rw[List.length_map]at h1;have h4:ds.length*bO c≤manyN c c.xs.length:=Nat.le_trans h1 h3;rcases Nat.lt_or_ge 20 ds.length with h|h
 ·exfalso;have h5:21*bO c≤ds.length*bO c:=Nat.mul_le_mul_right _ h;unfold bO at h4 h5;omega
 ·exact h
inductive vK(vs:List V)(H:Hp)(Q:VK)(u3:XK):Prop
 |mk (a:Addr) (c:Case) (f g m l:Addr) (us:List V) (_:vs=[.ref a]) (_:kM H a c f g m l us) (_:gW 60 c) (_:∀H' b m',ax H H'→H b=none→H' b=some (.lst [.ref f, .ref g, .ref m', .ref l])→kM H' b (bC c) f g m' l us→Q (.ref b) H'):vK vs H Q u3
inductive vL(CF:Addr)(vs:List V)(H:Hp)(Q:VK)(u3:XK):Prop
 |mk (a:Addr) (c0:Case) (f g m l:Addr) (us:List V) (most:Nat) (_:vs=[.ref a]) (_:kM H a (bC c0) f g m l us) (_:gW most (bC c0)) (_:most≤50) (_:∀es,sg (kx (bC c0) []) (bC c0).out (bC c0).into (bC c0).least es→∀H' r vs,ax H H'→H r=none→H' r=some (.lst vs)→cw (fun b=>H b=none) H' CF vs es→Q (.ref r) H'):vL CF vs H Q u3
end QF
namespace QF
open PySem L2 PySem.Spec PyProof.Rows PySem.W PySem.Calls
section
variable{X:Cx}
inductive MT(K:Frag)(neg:Bool)(x:V)(y:V)(H:Hp)(Q:VK):Prop
 |mk (p q:Addr) (r:Pr) (vs:List V) (ps:List Pr) (_:x= .ref p) (_:y= .ref q) (_:H p=some (.tup (ju r))) (_:gZ K H q vs) (_:eG H vs ps) (_:Q (.bl (xor neg (decide (r∈ps)))) H):MT K neg x y H Q
open Classical in
theorem Em{pins:List (Addr×Obj)}{s:Shared}{σ:L2.St}{H:Hp}{p q:Addr}{r:Pr}{vs:List V}{ps:List Pr}(hu:X.A.units+1<cLine)(I:Inv X pins σ H s)(hp:H p=some (.tup (ju r)))(hq:gZ X.K H q vs)(P:eG H vs ps):
  ∃(its:List Value)(e:Value→Bool),s.heap.IsList q its.toArray∧(∀y∈its.toArray,SeqAt.EqAt X.A.in1 s y (.ref p) (e y))∧its.toArray.any e=decide (r∈ps):=by
 obtain⟨its,r1,pl,hz⟩:=I.tuple (xs:=ju r) (.of hp);obtain⟨fe,r2,I0,Mc⟩:=I.list hq;have lc:=P.1;have l2:=r2.length;have key:∀j,j<fe.length→∃g t,ps[j]?=some g∧fe[j]?=some (.ref t)∧H t=some (.tup (ju g)):=fun j hj=>by
  have hc:ps[j]?=some ps[j]:=by simp[show j<ps.length by omega]
  obtain⟨t,h1,h2⟩:=P.2 j _ hc;obtain⟨u,eu,ru⟩:=r2.get h1;cases ru;exact⟨_,t,hc,eu,h2⟩
 let e:Value→Bool:=fun y=>decide (∃t,y=Value.ref t∧H t=some (.tup (ju r)))
 have ee:∀{t g},H t=some (.tup (ju g))→e (.ref t)=decide (g=r):=fun{t g} h=>by
  show decide _=_;rw[Bool.eq_iff_iff,decide_eq_true_iff,decide_eq_true_iff];constructor
  ·rintro⟨t',e1,e2⟩;cases e1;rw[h]at e2;have:=HO.tup.inj (XM e2);simp only[ju,List.cons.injEq,V.int.injEq,and_true]at this;exact Prod.ext this.1 this.2
  ·rintro rfl;exact⟨t,rfl,h⟩
 refine⟨fe,e,I0.isList,fun y hy=>?_,?_⟩
 ·obtain⟨j,hj,rfl⟩:=Array.mem_iff_getElem.mp hy;have B_:j<fe.length:=by simpa using hj
  obtain⟨g,t,h1,h2,h3⟩:=key j B_;have ej:fe.toArray[j]= .ref t:=by
   have:=(Xv h2).2;simpa using this
  rw[ej,ee h3];by_cases hn:t=p
  ·subst hn;rw[hp]at h3;have:=HO.tup.inj (XM h3);simp only[ju,List.cons.injEq,V.int.injEq,and_true]at this;have:r=g:=Prod.ext this.1 this.2;rw[decide_eq_true this.symm];exact SeqAt.EqAt.same _
  ·obtain⟨Vo,r3,Vp,W4⟩:=I.tuple (xs:=ju g) (.of h3);have:=SeqAt.EqAt.of_refs hn (SeqAt.RcAt.tuples (A:=X.A.in1) Vp pl (show X.A.in1.units<cLine from hu) (Ys r3 r1 rfl rfl));rw[←Ai,←my,r3.length,r1.length];simpa using this
 ·rw[Bool.eq_iff_iff,Array.any_eq_true,decide_eq_true_iff];constructor
  ·rintro⟨j,hj,hh⟩;have B_:j<fe.length:=by simpa using hj
   obtain⟨g,t,h1,h2,h3⟩:=key j B_;have ej:fe.toArray[j]= .ref t:=by
    have:=(Xv h2).2;simpa using this
   rw[ej,ee h3,decide_eq_true_iff]at hh;rw[←hh];exact XF h1
  ·intro hm;obtain⟨j,hj,hg⟩:=List.mem_iff_getElem.mp hm;have B_:j<fe.length:=XT;obtain⟨g,t,h1,h2,h3⟩:=key j B_;refine⟨j,by simpa using B_,?_⟩;have ej:fe.toArray[j]'(by simpa using B_)= .ref t:=by
    have:=(Xv h2).2;simpa using this
   rw[ej,ee h3,decide_eq_true_iff];rw[List.getElem?_eq_getElem hj,hg]at h1;exact(XM h1).symm
theorem Zb(K:Frag)(hu:X.A.units+1<cLine)(hK:X.K=K:=by rfl):qT X (compareOp .In) (MT K false):=by
 subst hK;intro pins s σ H x y v u Q I rx ry h;obtain⟨p,q,r,vs,ps,rfl,rfl,hp,hq,P,k⟩:=h;cases rx;cases ry;obtain⟨its,e,pl,h1,h2⟩:=Em hu I hp hq P;refine SeqAt.in_listAt e pl h1 ⟨.bl (decide (r∈ps)),H,I,?_,by simpa using k⟩;rw[h2];rfl
end
end QF
namespace QF
open PySem L2
inductive Yh(CF:Addr)(vs:List V)(H:Hp)(Q:VK)(u3:XK):Prop
 |mk (t p:Addr) (wv:Int) (us:List V) (es:List Fd) (ws:List V) (ps:List Pr) (_:vs=[.ref t, .ref p, .int wv]) (_:H t=some (.lst us)) (_:cw (fun _=>True) H CF us es) (_:H p=some (.lst ws)) (_:eG H ws ps) (_:ps.length≤10000) (_:∃d∈es,wv≤d.worth∧∃q∈ps,q∈d.pairs) (_:∀H',ax H H'→Q (.bl true) H'):Yh CF vs H Q u3
theorem F6{xs:List V}{i j:Nat}(hi:i≤xs.length)(hj:j≤xs.length):uS xs (some (i:Int)) (some (j:Int))=(xs.drop i).take (j-i):=by
 unfold uS;rw[nF XQ (XT),nF XQ (XT)];simp
theorem En{ps:List Pr}{a n k:Nat}(h:k<n):pr ((ps.drop a).take n) k=pr ps (a+k):=by
 rw[Fw h];simp[pr,List.getD_eq_getElem?_getD]
theorem BN{c:Case}{ps:List Pr}(g:iH c ps ps.length){a n:Nat}(hn:0<n)(h:a+n≤ps.length):nH c ((ps.drop a).take n)=true:=by
 have hl:((ps.drop a).take n).length=n:=by rw[List.length_take,List.length_drop];omega
 refine lE (fun z=>by rw[z]at hl;simp at hl;omega) fun k hk=>?_
 rw[hl]at hk;have:=g (a+k) (XT);simp only[gm]at this⊢;rw[En hk,En (by omega:k-1<n)];by_cases e:k=0
 ·subst e;simp only[Nat.add_zero,Bool.and_eq_true]at this⊢;exact⟨this.1,XX⟩
 ·rw[show a+(k-1)=a+k-1 by omega];simp only[Bool.and_eq_true,Bool.or_eq_true,decide_eq_true_eq]at this⊢;exact⟨this.1, .inr (this.2.resolve_left XQ)⟩
theorem nK.of{c:Case}{ps:List Pr}(h:nH c ps=true):nK c [] ps:=⟨h,fun p _=>XX⟩
theorem F8{c:Case}{ps:List Pr}(h:nH c ps=true):Wy (lf (kx c [])) ps∧dq c ps (ps.length-1)=vl (lf (kx c [])) c.out c.into ps:=⟨Dx.mp (.of h),FF (.of h)⟩
end QF
namespace L2
open PySem PySem.Spec PyProof.Rows PySem.W PySem.Calls
inductive fH(K:Frag)(x q:Str)(st:Stmt)(f:Addr):Prop
 |mk {oc kV dc pm cd ct:Value} {od an:Option Addr} {sl:Array (Option Value)} (l:K.lookup f=some ⟨oc,od, .func (fnOf x q (eW st) (d0 st) (aq st) .none kV dc pm an cd ct),sl⟩) (c:codeIn K cd q=true) (k:keepIn K (.ref f)=true):fH K x q st f
theorem BO{Φ:Value→Value→Value→Option Addr→Value→Value→List Value→Prop}(h:∀k d p n c t a,Φ k d p n c t [a])(k d p:Value)(n:Option Addr)(c t:Value)(us:List Value)(e:us.length=1):Φ k d p n c t us:=QF.UL (h k d p n c t) us e
theorem X8{Φ:Value→Value→Value→Option Addr→Value→Value→List Value→Prop}(h:∀k d p n c t a b,Φ k d p n c t [a,b])(k d p:Value)(n:Option Addr)(c t:Value)(us:List Value)(e:us.length=2):Φ k d p n c t us:=QF.UM (h k d p n c t) us e
theorem X2{Φ:Value→Value→Value→Option Addr→Value→Value→List Value→Prop}(h:∀k d p n c t x y z,Φ k d p n c t [x,y,z])(k d p:Value)(n:Option Addr)(c t:Value)(us:List Value)(e:us.length=3):Φ k d p n c t us:=QF.UN (h k d p n c t) us e
theorem QD{Φ:Value→Value→Value→Option Addr→Value→Value→List Value→Prop}(h:∀k d p n c t x y z u,Φ k d p n c t [x,y,z,u])(k d p:Value)(n:Option Addr)(c t:Value)(us:List Value)(e:us.length=4):Φ k d p n c t us:=QF.UO (h k d p n c t) us e
theorem Sl{Φ:Value→Value→Value→Option Addr→Value→Value→List Value→Prop}(h:∀k d p n c t x y z u v,Φ k d p n c t [x,y,z,u,v])(k d p:Value)(n:Option Addr)(c t:Value)(us:List Value)(e:us.length=5):Φ k d p n c t us:=QF.UP (h k d p n c t) us e
theorem Vq{Φ:Value→Value→Value→Option Addr→Value→Value→List Value→Prop}(h:∀k d p n c t x y z u v w,Φ k d p n c t [x,y,z,u,v,w])(k d p:Value)(n:Option Addr)(c t:Value)(us:List Value)(e:us.length=6):Φ k d p n c t us:=QF.UQ (h k d p n c t) us e
section
variable{P:Program}{w:World}{K:Frag}{mg:Str→Option Value}{base h:Heap}{cm:Bool}{k:Nat}{x q:Str}{st:Stmt}{f C:Addr}{ps:List Str}{sp:Sp}
def Oe(x q:Str)(st:Stmt)(ps:List Str):Prop:=∀(kV doc pm:Value)(an:Option Addr)(cc ct:Value)(us:List Value),us.length=ps.length→bindArgs (fnOf x q (eW st) (d0 st) (aq st) .none kV doc pm an cc ct) ⟨us,[]⟩=pure (ps.zip us)
theorem fH.df(d:fH K x q st f)(X:K.In h)(G:h.Ns mainGlobals mg)(a:nsIn K mainGlobals x=some (some (.ref f)))(ok:∀fd,jy K x q st f fd→aZ P w K mg base (de P w) cm k f fd ps sp)(b:Oe x q st ps):bN P w K mg base cm k x ps sp:=by
 obtain⟨l,c,z⟩:=d;have F:=CU (st:=st) l c z;exact C7 F (mg_of X G a) (F.binds b) (ok _ F)
theorem fH.ok(d:fH K x q st f){R:FuncData→Prop}(ok:∀fd,gT K x q st f fd→R fd)(b:Oe x q st ps):∃fd,R fd∧Binds K fd ps []:=by
 obtain⟨l,c,z⟩:=d;exact⟨_,ok _ (Z5 (st:=st) l c z), .all fun us e=>b _ _ _ _ _ _ us e⟩
theorem fH.mt(d:fH K x q st f)(cl:uN K C)(a:findIn K (.ref C) x=some (some (.ref f)))(i:isFn K (.ref f)=true)(ok:∀fd,gT K x q st f fd→aZ P w K mg base (de P w) cm k f fd ps sp)(b:Oe x q st ps):dY P w K mg base cm k C x ps sp:=by
 obtain⟨fd,h1,h2⟩:=d.ok (R:=fun fd=>aZ P w K mg base (de P w) cm k f fd ps sp) ok b;obtain⟨l,c,z⟩:=d;exact Bf h1 ⟨a,i,z⟩ h2 cl
theorem fH.nw{y:Str}(d:fH K x q st f)(m:mg y=some (.ref C))(g1:makesIn K C=true)(g2:keepIn K (.ref C)=true)(a:findIn K (.ref C) "__init__"=some (some (.ref f)))(i:isFn K (.ref f)=true)(ok:∀fd,gT K x q st f fd→aZ P w K mg base (de P w) cm k f fd ps sp)(b:Oe x q st ps):l5 P w K mg base cm k y C ps [] sp:=by
 obtain⟨fd,h1,h2⟩:=d.ok (R:=fun fd=>aZ P w K mg base (de P w) cm k f fd ps sp) ok b;exact Yt h1 ⟨g1,a,i,g2⟩ m h2 .nil
structure MU(K:Frag)(x:Str)(C:Addr):Prop where
 a:nsIn K mainGlobals x=some (some (.ref C))
 b:excIn K C [.type "ValueError", .type "Exception", .type "BaseException", .type "object"] "ValueError.__new__"=true
 c:findIn K (.ref C) "__class__"=some (some (.builtin "object.__class__"))
 d:mroIn K C (.type "object")=some true
 e:mroIn K C (.type "BaseException")=some true
 f:findIn K (.ref C) "__getattribute__"=some (some (.builtin "BaseException.__getattribute__"))
 g:findIn K (.ref C) "__getattr__"=some none
 h:instIn K (.ref C) (.type "tuple")=some false
 i:keepIn K (.ref C)=true
theorem MU.er{x:Str}{C:Addr}(e:MU K x C)(X:K.In h)(G:h.Ns mainGlobals mg):QF.Er K mg x C:=⟨mg_of X G e.a,e.b,e.c,e.d,e.e,e.f,e.g,e.h,e.i⟩
structure MV(K:Frag)(x:Str)(C:Addr):Prop where
 a:nsIn K mainGlobals x=some (some (.ref C))
 b:makesIn K C=true
 c:keepIn K (.ref C)=true
def XZ(K:Frag)(x:Str):Prop:=nsIn K mainGlobals x=some none
structure TZ(K:Frag):Prop where
 a:XZ K "len"
 b:XZ K "range"
 c:XZ K "isinstance"
 d:XZ K "int"
 e:XZ K "bool"
 f:XZ K "str"
 g:XZ K "list"
 h:XZ K "tuple"
 i:XZ K "dict"
 j:XZ K "all"
 k:XZ K "any"
 l:XZ K "min"
 m:XZ K "max"
 n:XZ K "enumerate"
 o:XZ K "ValueError"
theorem mE{x:Str}(z:XZ K x)(X:K.In h)(G:h.Ns mainGlobals mg):mg x=none:=mg_none_of X G z
theorem TZ.tb(z:TZ K)(X:K.In h)(G:h.Ns mainGlobals mg):QF.TB mg:=⟨mE z.a X G,mE z.b X G,mE z.c X G,mE z.d X G,mE z.e X G,mE z.f X G,mE z.g X G,mE z.h X G,mE z.i X G,mE z.j X G,mE z.k X G,mE z.l X G,mE z.m X G,mE z.n X G,mE z.o X G⟩
end
end L2
namespace QF
open PySem L2
end QF
namespace L2
open PySem PySem.Spec PyProof.Rows PySem.W PySem.Calls
open AutoSeq1 (wpAny_loadPart')
end L2
namespace QF
open PySem L2 PySem.Spec PyProof.Rows PySem.W PySem.Calls
section
variable{X:Cx}
end
inductive Rn(o p least:Int):(Nat→Nat→Option Int)→List Fd→Prop
 |stop {f:Nat→Nat→Option Int} (_:Stop f o p least):Rn o p least f []
 |round {f:Nat→Nat→Option Int} {W:Int} {gs:List (List Pr)} {ds rs:List Fd} (_:lJ f o p least W gs ds) (_:Rn o p least (kq f gs.flatten) rs):Rn o p least f (ds++rs)
section
variable{X:Cx}
inductive FW(K:Frag)(x:V)(y:V)(H:Hp)(Q:VK):Prop
 |mk (p q:Addr) (xs ys:List V) (ps:List Pr) (_:x= .ref p) (_:y= .ref q) (_:gZ K H p xs) (_:gZ K H q ys) (_:eG H xs ps) (_:eG H ys ps) (_:Q (.bl false) H):FW K x y H Q
end
end QF
namespace L2
open PySem PySem.Spec PyProof.Rows PySem.W PySem.Calls
open AutoSeq1 (wpAny_loadPart')
end L2
namespace QF
open PySem L2 PySem.Spec PyProof.Rows PySem.W PySem.Calls
section
variable{X:Cx}
end
end QF
namespace QF
open PySem L2
end QF
namespace QF
open PySem L2
section
variable{m:Nat}{c:Case}
end
section
variable{φ ψ:Pr→Pr}{o p o' p' W least:Int}{f g:Nat→Nat→Option Int}
end
end QF
namespace QE
open PySem L2 QF
def top(i:Nat):Stmt:=PySem.Challenge.pw_quotefind_k19_all_found.main.body.getD i (.Pass ⟨0,0,0,0⟩)
abbrev fO:Stmt:=top 28
abbrev lK:Stmt:=top 29
abbrev j1:Stmt:=top 34
abbrev iL:Stmt:=top 35
abbrev fQ:Stmt:=top 36
abbrev gD:Stmt:=top 37
abbrev bg:Stmt:=inClass (top 38) 0
abbrev dM:Stmt:=inClass (top 38) 1
abbrev j4:Stmt:=top 11
abbrev YQ:Stmt:=top 12
abbrev fz:Stmt:=top 13
abbrev dC:Stmt:=inClass (top 14) 1
abbrev d8:Stmt:=inClass (top 14) 0
abbrev gv:Stmt:=inClass (top 14) 2
abbrev dN:Stmt:=inClass (top 14) 4
abbrev cL:Stmt:=inClass (top 14) 3
abbrev eK:Stmt:=inClass (top 14) 5
abbrev gX:Stmt:=inClass (top 14) 6
abbrev fA:Stmt:=inClass (top 20) 0
abbrev mF:Stmt:=top 24
abbrev eL:Stmt:=top 21
abbrev fR:Stmt:=inClass (top 7) 0
abbrev hZ:Stmt:=inClass (top 7) 1
abbrev e7:Stmt:=inClass (top 7) 2
abbrev eM:Stmt:=inClass (top 7) 3
abbrev gE:Stmt:=inClass (top 7) 4
abbrev eO:Stmt:=inClass (top 8) 0
abbrev e8:Stmt:=inClass (top 8) 1
abbrev du:Stmt:=inClass (top 8) 2
abbrev d_:Stmt:=inClass (top 8) 3
abbrev jo:Stmt:=top 9
abbrev lL:Stmt:=top 16
abbrev fh:Stmt:=top 17
abbrev fS:Stmt:=top 22
abbrev j5:Stmt:=top 23
abbrev pT:Stmt:=top 25
abbrev pU:Stmt:=top 40
abbrev j6:Stmt:=top 41
abbrev kR:Stmt:=top 42
abbrev kT:Stmt:=top 43
abbrev h_:Stmt:=top 44
abbrev fT:Stmt:=top 45
abbrev kU:Stmt:=top 46
abbrev kW:Stmt:=top 47
abbrev kX:Stmt:=top 48
abbrev ic:Stmt:=top 50
abbrev j7:Stmt:=top 49
abbrev j8:Stmt:=top 51
abbrev j9:Stmt:=top 52
abbrev kY:Stmt:=top 53
abbrev j_:Stmt:=top 54
abbrev iM:Stmt:=top 55
abbrev sk:Stmt:=top 56
section
variable{P:Program}{w:World}{K:W.Frag}{mg:Str→Option Value}{base:Heap}
variable{dO cO aQ az aH aF ay jG:Addr}
variable(T:TB mg)
theorem mG:aJ ["sign"] ["sign"] (aq fO):=⟨rfl,rfl,rfl,by decide+kernel,rfl,by decide+kernel,by decide+kernel⟩
include T in
theorem mH{f:Addr}{fd:FuncData}(F:jy K "is_small_letter" "is_small_letter" fO f fd):aZ P w K mg base (de P w) true 1 f fd ["sign"] YY:=by
 refine F.gA mG XO (fun cc A outer s H vs Q E hr h hX=>?_)
 ·obtain⟨i,rfl,_⟩:=h;rfl
 ·obtain⟨c,rfl,q⟩:=h;refine⟨_,(XB (@aO _ _ _ _ (@rk _ _ _ _ _ _ _ (@fj _ _ _ _ _ _ _ _ uv dH (pv 0) (aW _)) (@o_ _ _ _ _ _ (@fj _ _ _ _ _ _ _ _ uv (pv 0) dH (aW _)))))),?_⟩;refine⟨_,rfl,_,_,rfl,rfl,_,rfl,?_⟩;have q:Q (.bl (decide (97≤c)&&decide (c≤122))) H:=q;rw[←PU,←PV]at q;refine bj (fun h=>?_) (fun h=>?_)
  ·refine⟨_,rfl,_,_,rfl,rfl,?_⟩;rw[h,Bool.true_and]at q;exact q
  ·rw[Bool.not_eq_true]at h;rw[h,Bool.false_and]at q;exact q
variable(i5:Cu mg "WORD_MOST" (.int 12))
variable(ed:bN P w K mg base true 1 "is_small_letter" ["sign"] YY)
theorem Zm:aJ ["text"] ["text"] (aq lK):=⟨rfl,rfl,rfl,by decide+kernel,rfl,by decide+kernel,by decide+kernel⟩
include T i5 ed in
theorem ZG{f:Addr}{fd:FuncData}(F:jy K "is_word" "is_word" lK f fd):aZ P w K mg base (de P w) true 2 f fd ["text"] va:=by
 refine F.gA Zm XO (fun cc A outer s H vs Q E hr h hX=>?_)
 ·obtain⟨i,rfl,_⟩:=h;rfl
 ·obtain⟨z,rfl,hz,q⟩:=h;refine⟨_,(XA (XI (@PW.pt _ _ _ (@pw_or _ _ _ _ _ _ _ (@a7 _ _ _ _ _ _ _ _ m_ (Xu ni XS T.eF PyProof.Rows.Boot.«len» (Xo (pv 0) ai)) af (aW _)) (@pw_or1 _ _ _ _ (@a7 _ _ _ _ _ _ _ _ rn (Xu ni XS T.eF PyProof.Rows.Boot.«len» (Xo (pv 0) ai)) (@fm _ _ _ _ i5 (XW) (XU)) (aW _))))) (XB (@aO _ _ _ _ kn)) aT) (XB (@aO _ _ _ _ (Xu (Bh K rfl) (by exact rfl) T.L8 PyProof.Rows.Boot.«all» (Xo (@lB _ _ _ _ _ _ _ _ _ _ _ _ _ _ (by exact rfl) (show br ["text"] (aq lK) _ ["sign"] [] []from⟨rfl,by decide+kernel,by decide+kernel,by decide+kernel,rfl,rfl,by decide+kernel,by decide+kernel,by decide+kernel⟩) (@IS _ _ _ _ (pv 0)) (fun _ _ _ _ _=>(Xr (0) (show(["sign"]:List Str).Nodup by decide+kernel) (Or.inl rfl))) (fun _ _ _ _ _=>hG) (fun _ _ _ _ _=>(Xq ed aR (Xo (pv 0) ai))) (by intro _;rfl)) ai))))),?_⟩;have Sn:z.length≤sizeLine:=Nat.le_trans hz (XU);refine⟨_,rfl,z,rfl,Sn,_,_,rfl,rfl,_,rfl,?_⟩;refine bj (fun h=>?_) (fun h=>?_)
  ·have h:((z.length:Nat):Int)<1:=by simpa using h
   refine kI ?_;have e:rF z=false:=by
    have:¬1≤z.length:=XT;simp[rF,this]
   have q:=q H (ax.refl H);rw[e]at q;exact q
  have h:¬((z.length:Nat):Int)<1:=by simpa using h
  refine⟨_,rfl,z,rfl,Sn,_,_,rfl,rfl,_,rfl,?_⟩;refine bj (fun h2=>?_) (fun h2=>?_)
  ·have h2:(12:Int)<((z.length:Nat):Int):=by simpa using h2
   have e:rF z=false:=by
    have:¬z.length≤12:=XT;simp[rF,this]
   have q:=q H (ax.refl H);rw[e]at q;exact q
  have h2:¬(12:Int)<((z.length:Nat):Int):=by simpa using h2
  have hl:z.length≤12:=XT;have e:rF z=z.cps.toList.all low:=by
   have h3:1≤z.length:=XT;simp[rF,h3,hl]
  refine⟨_,rfl,z,rfl,fun D hD=>?_⟩;refine CZ (fun i ys σ H'=>(∃v,σ=[v])∧ys=(z.cps.toList.take i).map (fun c=>V.bl (low c))∧H'=upd H D (.lst ys)) ⟨⟨_,rfl⟩,rfl,rfl⟩ ?_ ?_
  ·rintro i c ys σ H' hc ⟨⟨v,rfl⟩,hy,rfl⟩;refine pA ?_;refine⟨_,rfl,c,rfl,ae,?_,⟨_,rfl⟩,?_,?_⟩
   ·rw[hy,List.length_map,List.length_take];exact Nat.lt_of_le_of_lt (Nat.min_le_left _ _) (Nat.lt_of_lt_of_le (Nat.lt_of_lt_of_le (Xv hc).1 (by simpa[Str.length]using hl)) (XU))
   ·rw[hy,List.take_succ,hc];simp
   ·rw[fJ]
  ·rintro ys σ H' ⟨_,hy,rfl⟩;have EE:ys=(z.cps.toList.map low).map V.bl:=by
    rw[hy,List.take_of_length_le (by simp[Str.length])];simp
   rw[EE];refine⟨D,z.cps.toList.map low,rfl,gZ.of ae,?_⟩;have q:=q _ (ax.upd hD:ax H (upd H D (.lst ((z.cps.toList.map low).map V.bl))));rw[e]at q;have e3:(z.cps.toList.map low).all id=z.cps.toList.all low:=by rw[List.all_map];rfl
   rw[←e3]at q;exact q
theorem tE:aJ ["low","number","high"] ["low","number","high"] (aq j1):=⟨rfl,rfl,rfl,by decide+kernel,rfl,by decide+kernel,by decide+kernel⟩
include T in
theorem tF{f:Addr}{fd:FuncData}(F:jy K "is_between" "is_between" j1 f fd):aZ P w K mg base (de P w) true 1 f fd ["low","number","high"] mq:=by
 refine F.gA tE XO (fun cc A outer s H vs Q E hr h hX=>?_)
 ·obtain⟨l,n,h,rfl,_⟩:=h;rfl
 ·obtain⟨l,n,h,rfl,q⟩:=h;refine⟨_,(XB (@aO _ _ _ _ (@rk _ _ _ _ _ _ _ (@fj _ _ _ _ _ _ _ _ GC (pv 0) (pv 1) (aW _)) (@o_ _ _ _ _ _ (@fj _ _ _ _ _ _ _ _ GC (pv 1) (pv 2) (aW _)))))),?_⟩;refine⟨_,rfl,_,rfl,_,_,rfl,rfl,_,rfl,?_⟩;refine bj (fun h1=>?_) (fun h1=>?_)
  ·refine⟨_,rfl,_,rfl,_,_,rfl,rfl,?_⟩;rw[h1,Bool.true_and]at q;exact q
  ·rw[Bool.not_eq_true]at h1;rw[h1,Bool.false_and]at q;exact q
variable(dP:bN P w K mg base true 1 "is_between" ["low","number","high"] mq)
variable(iO:Er K mg "BadTerms" dO)
theorem qE:aJ ["name","number","low","high"] ["name","number","low","high"] (aq iL):=⟨rfl,rfl,rfl,by decide+kernel,rfl,by decide+kernel,by decide+kernel⟩
include T dP iO in
theorem qF{f:Addr}{fd:FuncData}(F:jy K "check_number" "check_number" iL f fd):aZ P w K mg base (de P w) true 2 f fd ["name","number","low","high"] (pC dO):=by
 refine F.gA qE XO (fun cc A outer s H vs Q E hr h hX=>?_)
 ·obtain⟨nm,n,l,h,rfl,_⟩:=h;rfl
 ·obtain⟨nm,n,l,h,rfl,hn,hl,hh,q⟩:=h;refine⟨_,(XB (XI (@gi _ _ _ _ (@dI _ _ _ (Xq dP aR (Xo (pv 2) (Xo (pv 1) (Xo (pv 3) ai)))) (by intro _;rfl))) (XB (@iF _ _ _ _ _ _ _ _ _ _ hX XS (by exact rfl) iO.m iO.e (Xo (@lA _ _ _ _ _ _ (@eZ _ _ _ _ _ (@pz _ _ _ _ (pv 0)) (@eZ _ _ _ _ _ dH (@eZ _ _ _ _ _ (@pz _ _ _ _ (pv 2)) (@eZ _ _ _ _ _ dH (@eZ _ _ _ _ _ (@pz _ _ _ _ (pv 3)) uZ)))))) ai) (XU) (XW) (XW))) aT)),?_⟩;refine⟨_,rfl,_,rfl,_,rfl,l,n,h,rfl,?_⟩;refine⟨_,rfl,?_⟩;refine bj (fun h1=>?_) (fun h1=>?_)
  ·have h1:inR l n h=false:=(Bool.not_eq_true' _).mp h1;rw[h1]at q;have z1:=nC (i:=l) (by lia);have z2:=nC (i:=h) (by lia);have w1:(Str.ofString " lies between ").length=14:=by decide+kernel
   have w2:(Str.ofString " and ").length=5:=by decide+kernel
   have w3:=lC;refine⟨_,rfl, .inl ⟨nm,rfl,aD XR,nm,rfl,aD ?_,_,rfl,aD ?_,_,rfl, .inr ⟨l,rfl,z1.1,_,rfl,aD ?_,_,rfl,aD ?_,_,rfl, .inr ⟨h,rfl,z2.1,_,rfl,aD ?_,aD ?_,gN,?_⟩⟩⟩⟩
   ·rw[len_app];lia
   ·rw[len_app,len_app];lia
   ·rw[len_app,len_app,len_app];lia
   ·rw[len_app,len_app,len_app,len_app];lia
   ·rw[len_app,len_app,len_app,len_app,len_app];lia
   ·rw[len_app,len_app,len_app,len_app,len_app];lia
   ·exact q
  ·have h1:inR l n h=true:=by
    have h1:¬(!(inR l n h))=true:=h1;simpa using h1
   rw[h1]at q;exact q
variable(bJ:Cu mg "WORTH_MOST" (.int 999999))
variable(jH:bN P w K mg base true 2 "is_word" ["text"] va)
variable(bT:Er K mg "BadNear" cO)
theorem mI:aJ ["x","y","price"] ["x","y","price"] (aq fQ):=⟨rfl,rfl,rfl,by decide+kernel,rfl,by decide+kernel,by decide+kernel⟩
include T dP bJ jH bT in
theorem mJ{f:Addr}{fd:FuncData}(F:jy K "check_near_form" "check_near_form" fQ f fd):aZ P w K mg base (de P w) true 3 f fd ["x","y","price"] (vc cO):=by
 refine F.gA mI XO (fun cc A outer s H vs Q E hr h hX=>?_)
 ·obtain⟨x,y,p,rfl,_⟩:=h;rfl
 ·obtain⟨x,y,p,rfl,hx,hy,q⟩:=h;have bad:gU x y p=false→∀H',ax H H'→E (.ref cO) none H':=fun e=>by rw[e]at q;exact q
  have good:gU x y p=true→∀H',ax H H'→Q .cJ H':=fun e=>by rw[e]at q;exact q
  refine⟨_,(XA (XI (@PW.pt _ _ _ (@pw_or _ _ _ _ _ _ _ (@gi _ _ _ _ (@dI _ _ _ (Xq jH aR (Xo (pv 0) ai)) (by intro _;rfl))) (@pw_or1 _ _ _ _ (@gi _ _ _ _ (@dI _ _ _ (Xq jH aR (Xo (pv 1) ai)) (by intro _;rfl)))))) (XB (@iF _ _ _ _ _ _ _ _ _ _ hX XS (by exact rfl) bT.m bT.e (Xo dH ai) (XU) (XW) (XW))) aT) (XA (XI (@a7 _ _ _ _ _ _ _ _ iD (pv 0) (pv 1) (aW _)) (XB (@iF _ _ _ _ _ _ _ _ _ _ hX XS (by exact rfl) bT.m bT.e (Xo dH ai) (XU) (XW) (XW))) aT) (XB (XI (@gi _ _ _ _ (@dI _ _ _ (Xq dP aR (Xo af (Xo (pv 2) (Xo (@fm _ _ _ _ bJ (XW) (XU)) ai)))) (by intro _;rfl))) (XB (@iF _ _ _ _ _ _ _ _ _ _ hX XS (by exact rfl) bT.m bT.e (Xo (@lA _ _ _ _ _ _ (@eZ _ _ _ _ _ dH (@eZ _ _ _ _ _ (@pz _ _ _ _ (@fm _ _ _ _ bJ (XW) (XU))) uZ))) ai) (XU) (XW) (XW))) aT)))),?_⟩;refine⟨_,rfl,x,rfl,hx,fun H1 s1=>⟨_,rfl,?_⟩⟩;refine bj (fun h1=>?_) (fun h1=>?_)
  ·have h1:(!(rF x))=true:=h1;exact⟨gN,bad (by simp[gU,(Bool.not_eq_true' _).mp h1]) H1 s1⟩
  have h1:¬(!(rF x))=true:=h1;have h1:rF x=true:=by simpa using h1
  refine⟨_,rfl,y,rfl,hy,fun H2 s2=>⟨_,rfl,?_⟩⟩;have s2:=s1.trans s2;refine bj (fun h2=>?_) (fun h2=>?_)
  ·have h2:(!(rF y))=true:=h2;exact⟨gN,bad (by simp[gU,(Bool.not_eq_true' _).mp h2]) H2 s2⟩
  have h2:¬(!(rF y))=true:=h2;have h2:rF y=true:=by simpa using h2
  refine⟨_,rfl,_,rfl,rfl,_,rfl,?_⟩;refine bj (fun h3=>?_) (fun h3=>?_)
  ·have h3:x=y:=by simpa using h3
   exact⟨gN,bad (by simp[gU,h3]) H2 s2⟩
  have h3:¬x=y:=by simpa using h3
  refine⟨_,rfl,0,p,999999,rfl,_,rfl,?_⟩;refine bj (fun h4=>?_) (fun h4=>?_)
  ·have h4:(!(inR 0 p 999999))=true:=h4;have z1:=nC (i:=999999) (XT);have w1:(Str.ofString "the price of a near form lies between 0 and ").length=44:=by decide+kernel
   have w3:=lC;refine⟨_,rfl,aD ?_, .inr ⟨999999,rfl,z1.1,_,rfl,aD ?_,aD ?_,gN,?_⟩⟩
   ·rw[len_app];omega
   ·rw[len_app,len_app];omega
   ·rw[len_app,len_app];omega
   ·exact bad (by simp[gU,(Bool.not_eq_true' _).mp h4]) H2 s2
  ·have h4:¬(!(inR 0 p 999999))=true:=h4;have h4:inR 0 p 999999=true:=by simpa using h4
   exact good (by simp[gU,h1,h2,h3,h4]) H2 s2
variable(gR:Cu mg "NEAR_MOST" (.int 60))
variable(eh:bN P w K mg base true 3 "check_near_form" ["x","y","price"] (vc cO))
theorem eP:aJ ["near","prices","x","y","price"] ["near"] (aq gD):=⟨rfl,rfl,rfl,by decide+kernel,rfl,by decide+kernel,by decide+kernel⟩
include T bT gR eh in
theorem so{f:Addr}{fd:FuncData}(F:jy K "near_prices" "near_prices" gD f fd):aZ P w K mg base (de P w) true 4 f fd ["near"] (pD cO):=by
 refine F.gA eP XO (fun cc A outer s H vs Q E hr h hX=>?_)
 ·obtain⟨a,xs,fs,rfl,_⟩:=h;rfl
 ·obtain⟨a,xs,fs,rfl,ha,ht,LO,q⟩:=h;have bad:bI fs=false→∀H',ax H H'→E (.ref cO) none H':=fun e=>by rw[e]at q;exact q
  have good:bI fs=true→∀H' d,ax H H'→H d=none→H' d=some (.dT (fs.map kK))→Q (.ref d) H':=fun e=>by rw[e]at q;exact q
  have hu:=hr.units;have hu:(A.deeper (PyProof.Rows.envOfC "near_prices" (aq gD) s.heap.objs.size f cc)).units+1<cLine:=XT;refine⟨_,(XA (XI (@a7 _ _ _ _ _ _ _ _ rn (Xu (aM K) (by exact rfl) T.eF PyProof.Rows.Boot.«len» (Xo (pv 0) ai)) (@fm _ _ _ _ gR (XW) (XU)) (aW _)) (XB (@iF _ _ _ _ _ _ _ _ _ _ hX XS (by exact rfl) bT.m bT.e (Xo (@lA _ _ _ _ _ _ (@eZ _ _ _ _ _ dH (@eZ _ _ _ _ _ (@pz _ _ _ _ (@fm _ _ _ _ gR (XW) (XU))) (@eZ _ _ _ _ _ dH uZ)))) ai) (XU) (XW) (XW))) aT) (XA (Xp (1) eP.nd kG) (XA (@bL _ _ _ _ _ _ _ _ hX.own XS (@bu _ K _ _ _ (pv 0) (XW)) (@hJ _ K _ _ _ (3) _ (by exact rfl) (@bF _ _ _ _ _ (Xr (2) eP.nd (Or.inl rfl)) (@bF _ _ _ _ _ (Xr (3) eP.nd (Or.inl rfl)) (@bF _ _ _ _ _ (Xr (4) eP.nd (Or.inl rfl)) g9 (XW)) (XW)) (XW)) (XW) (XW) (XW)) (XA (@aY _ _ _ _ (Xq eh hX.pass (Xo (pv 2) (Xo (pv 3) (Xo (pv 4) ai)))) (XW)) (XA (XI (XC (@rA _ _ _ _ _ hu (@fK _ _ _ _ _ (Xo (pv 2) (Xo (pv 3) ai))) (pv 1))) (XB (@iF _ _ _ _ _ _ _ _ _ _ hX XS (by exact rfl) bT.m bT.e (Xo dH ai) (XU) (XW) (XW))) aT) (XB (@lz _ _ _ _ _ _ _ _ _ hu (pv 1) (@fK _ _ _ _ _ (Xo (pv 2) (Xo (pv 3) ai))) (pv 4) (by exact rfl))))) (by intro _;rfl)) (XB (@aO _ _ _ _ (pv 1)))))),?_⟩;refine⟨_,rfl,a,_,rfl, .inl (.of ha),_,_,rfl,rfl,_,rfl,?_⟩;refine bj (fun h1=>?_) (fun h1=>?_)
  ·have h1:(60:Int)<(xs.length:Int):=by simpa using h1
   rw[ht.1]at h1;have z1:=nC (i:=60) (XT);have w1:(Str.ofString "there are at most ").length=18:=by decide+kernel
   have w2:(Str.ofString " near forms").length=11:=by decide+kernel
   have w3:=lC;refine⟨_,rfl,aD ?_, .inr ⟨60,rfl,z1.1,_,rfl,aD ?_,_,rfl,aD ?_,aD ?_,gN,?_⟩⟩
   ·rw[len_app];omega
   ·rw[len_app,len_app];omega
   ·rw[len_app,len_app,len_app];omega
   ·rw[len_app,len_app,len_app];omega
   ·exact bad (by have:¬fs.length≤60:=(XT);simp[bI,this]) H (.refl H)
  have h1:¬(60:Int)<(xs.length:Int):=by simpa using h1
  rw[ht.1]at h1;refine fun d hd=>?_
  have W5:H a≠none:=by rw[ha];intro z;cases z
  have d6:a≠d:=aA ha hd;refine⟨_,rfl,a,rfl,⟨xs, .of (by rw[aj d6];exact ha)⟩,?_⟩;refine cG (xs:=xs) (fun i σ H'=>(∃u v w,σ=[some (.ref a),some (.ref d),u,v,w])∧H' d=some (.dT ((fs.take i).map kK))∧ax H H'∧((fs.take i).all B7=true)∧((fs.take i).map ku).Nodup) ?_ ?_ ?_ ?_
  ·exact⟨⟨_,_,_,rfl⟩,ae,ax.upd hd,rfl, .nil⟩
  ·rintro i σ H' hi ⟨_,_,s1,_⟩;exact .of (s1 _ _ ha)
  ·rintro i x σ H' hx ⟨⟨u,v,w,rfl⟩,hD,s1,bR,EF⟩;have hi:i<fs.length:=by rw[←ht.1];exact(Xv hx).1
   have hf:fs[i]?=some fs[i]:=by simp[hi]
   generalize fs[i]=f0 at hf;obtain⟨t,wH,sq⟩:=ht.2 i f0 hf;rw[hx]at wH;cases wH;obtain⟨x,y,p⟩:=f0;have hm:(x,y,p)∈fs:=XF hf;obtain⟨kP,Ho⟩:=LO.2 _ hm;refine⟨t,_,rfl, .of (s1 _ _ sq),rfl,_,_,rfl,_,_,rfl,_,_,rfl,rfl,?_⟩;refine⟨_,rfl,_,rfl,_,rfl,x,y,p,rfl,kP,Ho,?_⟩;refine bj (fun h2=>?_) (fun h2=>?_)
   rotate_left
   ·have h2:B7 (x,y,p)=false:=by simpa[B7]using h2
    exact fun H2 s2=>bad (C_ hf h2) H2 (s1.trans s2)
   have h2:B7 (x,y,p)=true:=h2;intro H2 s2;have Of:=s1.trans s2;have jI:=s2 _ _ hD;refine⟨_,rfl,_,rfl,aD XN,fun p1 Kz=>?_⟩;have n1:d≠p1:=aA jI Kz;refine⟨_,rfl,d,_,rfl, .t (k:=ku (x,y,p)) (by rw[aj n1];exact jI) ae,_,rfl,?_⟩;refine bj (fun h3=>?_) (fun h3=>?_)
   ·obtain⟨v3,h3⟩:=Option.isSome_iff_exists.mp h3;exact⟨gN,bad (Bj hf (IY h3)) _ (Of.e6 (Of.free Kz))⟩
   have h3:bh ((fs.take i).map kK) (ku (x,y,p))=none:=by simpa using h3
   have s3:ax H (upd H2 p1 (.tup [.str x, .str y])):=Of.e6 (Of.free Kz);refine⟨_,rfl,_,rfl,_,rfl,_,rfl,aD XN,fun p2 CA=>?_⟩;have BP:upd H2 p1 (.tup [.str x, .str y]) d=some (.dT ((fs.take i).map kK)):=by rw[aj n1];exact jI
   have n2:d≠p2:=aA BP CA;have hlen:((fs.take i).map kK).length<sizeLine:=a_ (by rw[List.length_map,List.length_take];omega);refine⟨d,_,rfl, .t (k:=ku (x,y,p)) (by rw[aj n2];exact BP) ae hlen,?_⟩;refine⟨⟨_,_,_,rfl⟩,?_,?_,?_,?_⟩
   ·rw[ae,rp _ h3,Bk hf];rfl
   ·exact(s3.e6 (s3.free CA)).e6 hd
   ·rw[List.take_succ,hf,List.all_append,bR];simp[h2]
   ·rw[List.take_succ,hf,List.map_append];have:=L_ h3;refine List.nodup_append.mpr ⟨EF,XX,?_⟩;intro a1 X_ b1 g7 e;have g7:b1=ku (x,y,p):=by simpa using g7
    rw[e,g7]at X_;exact this X_
  ·rintro σ H' ⟨⟨u,v,w,rfl⟩,hD,s1,bR,EF⟩;rw[ht.1,List.take_length]at hD bR EF;refine⟨_,rfl,good ?_ H' d s1 hd hD⟩;have:fs.length≤60:=XT;simp[bI,this,bR,EF]
variable(i6:Cu mg "PART_MOST" (.int 100))
variable(ck:bN P w K mg base true 2 "check_number" ["name","number","low","high"] (pC dO))
variable(gF:bN P w K mg base true 4 "near_prices" ["near"] (pD cO))
variable(Tc:Dd K aQ)
theorem nW:aJ ["self","same","out","into","least","part","near"] ["self","same","out","into","least","part","near"] (aq bg):=⟨rfl,rfl,rfl,by decide+kernel,rfl,by decide+kernel,by decide+kernel⟩
include T bJ i6 ck gF Tc in
theorem nX{f:Addr}{fd:FuncData}(F:gT K "__init__" "Terms.__init__" bg f fd):aZ P w K mg base (de P w) true 5 f fd ["self","same","out","into","least","part","near"] (qX aQ dO cO):=by
 refine F.gA nW XO (fun cc A outer s H vs Q E hr h hX=>?_)
 ·obtain⟨x,dx,n,nv,xs,fs,rfl,_⟩:=h;rfl
 ·obtain⟨x,dx,n,nv,xs,fs,rfl,hx,Dq,Vr,LO,q⟩:=h;have bad:iG n=false→E (.ref dO) none H:=fun e=>by rw[e]at q;exact q H .refl
  refine⟨_,(XA (@aY _ _ _ _ (Xq ck hX.pass (Xo dH (Xo (pv 1) (Xo af (Xo (@fm _ _ _ _ bJ (XW) (XU)) ai))))) (XW)) (XA (@aY _ _ _ _ (Xq ck hX.pass (Xo dH (Xo (pv 2) (Xo af (Xo (@fm _ _ _ _ bJ (XW) (XU)) ai))))) (XW)) (XA (@aY _ _ _ _ (Xq ck hX.pass (Xo dH (Xo (pv 3) (Xo af (Xo (@fm _ _ _ _ bJ (XW) (XU)) ai))))) (XW)) (XA (@aY _ _ _ _ (Xq ck hX.pass (Xo dH (Xo (pv 4) (Xo af (Xo (@fm _ _ _ _ bJ (XW) (XU)) ai))))) (XW)) (XA (@aY _ _ _ _ (Xq ck hX.pass (Xo dH (Xo (pv 5) (Xo af (Xo (@fm _ _ _ _ i6 (XW) (XU)) ai))))) (XW)) (XA (XJ K (pv 0) (pv 1)) (XA (XJ K (pv 0) (pv 2)) (XA (XJ K (pv 0) (pv 3)) (XA (XJ K (pv 0) (pv 4)) (XA (XJ K (pv 0) (pv 5)) (XG (XJ K (pv 0) (@m9 _ _ _ _ _ _ _ _ (XC (@mf _ _ _ _ _ (pv 6))) (@cf _ _ _ _ ai) (@gk _ _ _ _ _ _ _ _ _ (gB K) (by exact rfl) T.pB PyProof.Rows.Boot.«list» (Xo (pv 6) ai) (XU) (XU) (XW) (XW)))) (XB (XJ K (pv 0) (Xq gF hX.pass (Xo (Xx K (pv 0)) ai))))))))))))))),?_⟩;refine⟨_,rfl,"same",n.same,1,999999,rfl,by decide+kernel,XT,XT,?_⟩;refine bj (fun h1=>?_) (fun h1=>bad (by simp[iG,h1]));refine⟨_,rfl,"out",n.out,0,999999,rfl,by decide+kernel,XT,XT,?_⟩;refine bj (fun h2=>?_) (fun h2=>bad (by simp[iG,h2]));refine⟨_,rfl,"into",n.into,0,999999,rfl,by decide+kernel,XT,XT,?_⟩;refine bj (fun h3=>?_) (fun h3=>bad (by simp[iG,h3]));refine⟨_,rfl,"least",n.least,1,999999,rfl,by decide+kernel,XT,XT,?_⟩;refine bj (fun h4=>?_) (fun h4=>bad (by simp[iG,h4]));refine⟨_,rfl,"part",n.part,1,100,rfl,by decide+kernel,XT,XT,?_⟩;refine bj (fun h5=>?_) (fun h5=>bad (by simp[iG,h5]));have bR:iG n=true:=by simp[iG,h1,h2,h3,h4,h5]
  rw[bR]at q;have hl:∀k:Nat,k<10→k<1000:=fun k h=>XT
  refine⟨_,rfl,_,rfl,x,aQ,dx,_,rfl,hx,Tc.cl,Tc.same,XU,?_⟩;refine⟨_,rfl,_,rfl,x,aQ,dx,_,rfl,ae,Tc.cl,Tc.out,?_,?_⟩
  ·exact hl _ (by have:=aU "same" (.int n.same) [];simp at this;omega)
  refine⟨_,rfl,_,rfl,x,aQ,dx,_,rfl,ae,Tc.cl,Tc.into,?_,?_⟩
  ·exact hl _ (Nat.lt_of_le_of_lt (aU _ _ _) (by have:=aU "same" (.int n.same) [];simp at this;omega))
  refine⟨_,rfl,_,rfl,x,aQ,dx,_,rfl,ae,Tc.cl,Tc.least,?_,?_⟩
  ·show([("same", .int n.same),("out", .int n.out),("into", .int n.into)]:List (Str×V)).length<1000;simp
  refine⟨_,rfl,_,rfl,x,aQ,dx,_,rfl,ae,Tc.cl,Tc.part,?_,?_⟩
  ·show([("same", .int n.same),("out", .int n.out),("into", .int n.into),("least", .int n.least)]:List (Str×V)).length<1000;simp
  rw[fJ,fJ,fJ,fJ,PX];have b5:SameBut x H (upd H x (.ins aQ dx (l6 n))):=SameBut.refl.upd;refine⟨fun σ H'=>σ=[some (.ref x),some (.int n.same),some (.int n.out),some (.int n.into),some (.int n.least),some (.int n.part),some nv]∧∃l,H' x=some (.ins aQ dx (bb "near" (.ref l) (l6 n)))∧SameBut x H H'∧H' l=some (.lst xs)∧dG H' xs fs∧H l=none,?_,?_⟩
  ·refine⟨_,rfl,_,rfl,?_⟩;rcases Vr with⟨rfl,rfl,rfl⟩|⟨a,rfl,ha,Og⟩
   ·refine kI ?_;refine⟨aD XN,fun l kr=>?_⟩;have n1:x≠l:=aA ae kr;refine⟨_,rfl,x,aQ,dx,_,rfl,by rw[aj n1,ae],Tc.cl,Tc.near,by simp[l6],rfl,l,ae,?_,?_, .nil,?_⟩
    ·exact(b5.laid (b5.free ae kr)).upd
    ·rw[aj (Ne.symm n1),ae]
    ·exact b5.free ae kr
   ·refine bj (fun hh=>absurd hh XN) (fun _=>?_);have n0:a≠x:=iC ha hx (by intro z;cases z);refine⟨_,rfl,a,xs,rfl, .inl (.of (by rw[aj n0];exact ha)),fun l kr=>?_⟩;have n1:x≠l:=aA ae kr;have b6:SameBut x H (upd (upd H x (.ins aQ dx (l6 n))) l (.lst xs)):=b5.laid (b5.free ae kr);refine⟨_,rfl,x,aQ,dx,_,rfl,by rw[aj n1,ae],Tc.cl,Tc.near,by simp[l6],rfl,l,ae,b6.upd,?_,?_,?_⟩
    ·rw[aj (Ne.symm n1),ae]
    ·exact Og.but b6.upd hx
    ·exact b5.free ae kr
  ·rintro σ H' ⟨rfl,l,sY,sb,QG,Og,Vs⟩;refine⟨_,rfl,x,aQ,dx,_,_,rfl,sY,Tc.cl,Tc.near,Ma n l,l,xs,fs,rfl,QG,Og,LO,?_⟩;refine bj (fun h6=>?_) (fun h6=>?_)
   ·rw[if_pos rfl,XH h6]at q;intro H2 d s2 hd hD;have b2:=sb.same s2;have Vt:=sb.free sY hd;refine⟨_,rfl,x,aQ,dx,_,rfl,s2 _ _ sY,Tc.cl,Tc.De,?_,?_⟩
    ·have:=aU "near" (.ref l) (l6 n);have e5:(l6 n).length=5:=rfl;exact hl _ (XT)
    ·have nl:l≠x:=iC QG sY (by intro z;cases z);have nd:d≠x:=iC hD (s2 _ _ sY) (by intro z;cases z);have So:dx≠x:=iC Dq hx (by intro z;cases z);refine q _ l d b2.upd ⟨?_,?_,?_,?_,?_⟩ Vs Vt
     ·rw[ae,PY]
     ·rw[aj So];exact b2 _ _ So Dq
     ·rw[aj nl];exact s2 _ _ QG
     ·exact Og.but (SameBut.upd (fun b u n e=>s2 b u e)) sY
     ·rw[aj nd];exact hD
   ·rw[if_pos rfl,XE h6]at q;exact fun H2 s2=>q H2 (sb.same s2)
theorem g8:aJ ["self","x","y","price"] ["self","x","y"] (aq dM):=⟨rfl,rfl,rfl,by decide+kernel,rfl,by decide+kernel,by decide+kernel⟩
include T Tc in
theorem lR{f:Addr}{fd:FuncData}(F:gT K "pair_worth" "Terms.pair_worth" dM f fd):aZ P w K mg base (de P w) true 1 f fd ["self","x","y"] (vi aQ):=by
 refine F.gA g8 XO (fun cc A outer s H vs Q E hr h hX=>?_)
 ·obtain⟨t,x,y,n,fs,dx,l,d,xs,rfl,_⟩:=h;rfl
 ·obtain⟨t,x,y,n,fs,dx,l,d,xs,rfl,T1,q⟩:=h;have hu:=hr.units;have hu:(A.deeper (PyProof.Rows.envOfC "Terms.pair_worth" (aq dM) s.heap.objs.size f cc)).units+1<cLine:=XT;refine⟨_,(XA (XI (@a7 _ _ _ _ _ _ _ _ iD (pv 1) (pv 2) (aW _)) (XB (@aO _ _ _ _ (Xx K (pv 0)))) aT) (XA (Xp (3) g8.nd (@CH _ _ _ _ _ _ _ hu (Xx K (pv 0)) (@fK _ _ _ _ _ (Xo (pv 1) (Xo (pv 2) ai))) ⟨rfl,rfl,rfl,rfl⟩)) (XA (XI (XC (@mf _ _ _ _ _ (pv 3))) (XB (@aO _ _ _ _ jj)) aT) (XB (@aO _ _ _ _ (Xw cA (Xx K (pv 0)) (pv 3))))))),?_⟩;refine⟨_,rfl,_,rfl,rfl,_,rfl,?_⟩;refine bj (fun h=>?_) (fun h=>?_)
  ·have h:x=y:=by simpa using h
   have q:=q H (.refl H);rw[show dz n.same fs x y=some n.same by simp[dz,h]]at q;exact⟨_,rfl,t,aQ,dx,_,_,rfl,T1.ob,Tc.cl,Tc.same,Df n l d,q⟩
  have h:¬x=y:=by simpa using h
  refine⟨_,rfl,t,aQ,dx,_,_,rfl,T1.ob,Tc.cl,Tc.De,Dg n l d,d,rfl, .inr ⟨_, .inl T1.di⟩,_,rfl,_,rfl,aD XN,fun p hp=>?_⟩;have nd:d≠p:=aA T1.di hp;have q:=q _ (ax.upd (o:= .tup [.str x, .str y]) hp);refine⟨_, .t (k:=[.inr x, .inr y]) (by rw[aj nd];exact T1.di) ae,?_⟩;rw[uw];have T2:jV (upd H p (.tup [.str x, .str y])) aQ t n fs dx l d xs:=⟨ax.upd hp _ _ T1.ob,ax.upd hp _ _ T1.own,ax.upd hp _ _ T1.li,T1.tr.same (ax.upd hp),ax.upd hp _ _ T1.di⟩
  cases e:dJ fs x y with
  |none=>
   rw[show dz n.same fs x y=none by simp[dz,h,e]]at q;refine⟨_,rfl,_,rfl,?_⟩;exact kI q
  |some v=>
   rw[show dz n.same fs x y=some (n.same-v) by simp[dz,h,e]]at q;refine⟨_,rfl,_,rfl,?_⟩;refine bj (fun hh=>absurd hh XN) (fun _=>?_);exact⟨_,rfl,t,aQ,dx,_,_,rfl,T2.ob,Tc.cl,Tc.same,Df n l d,_,rfl,_,_,rfl,rfl,q⟩
theorem xH:aJ ["numbers"] ["numbers"] (aq j4):=⟨rfl,rfl,rfl,by decide+kernel,rfl,by decide+kernel,by decide+kernel⟩
include T in
theorem xI{f:Addr}{fd:FuncData}(F:jy K "greatest" "greatest" j4 f fd):aZ P w K mg base (de P w) true 1 f fd ["numbers"] kN:=by
 refine F.gA xH XO (fun cc A outer s H vs Q E hr h hX=>?_)
 ·obtain⟨a,os,rfl,_⟩:=h;rfl
 ·obtain⟨a,os,rfl,ha,hl,q⟩:=h;refine⟨_,(XB (@aO _ _ _ _ (@Fy _ K _ _ _ _ _ _ _ (by exact rfl) (by exact rfl) T.GX (@lB _ _ _ _ _ _ _ _ _ _ _ _ _ _ (by exact rfl) (show br ["numbers"] (aq j4) _ ["number"] [] []from⟨rfl,by decide+kernel,by decide+kernel,by decide+kernel,rfl,rfl,by decide+kernel,by decide+kernel,by decide+kernel⟩) (@bu _ K _ _ _ (pv 0) (XW)) (fun _ _ _ _ _=>(Xr (0) (show(["number"]:List Str).Nodup by decide+kernel) (Or.inl rfl))) (fun _ _ _ _ _=>(@Z' _ _ _ (XC (@m8 _ _ _ _ _ (pv 0))))) (fun _ _ _ _ _=>(pv 0)) (by intro _;rfl)) (XW) (XW)))),?_⟩;refine⟨_,rfl,a,rfl,⟨_, .of ha⟩,fun D hD=>?_⟩;refine iz (xs:=os.map bx) (fun i ys bA H'=>(∃u,bA=[u])∧ys=((os.take i).filterMap id).map V.int∧H' D=some (.lst ys)∧ax H H') ⟨⟨_,rfl⟩,rfl,ae,ax.upd hD⟩ ?_ ?_ ?_
  ·rintro i ys bA H' _ ⟨_,_,_,s1⟩;exact .of (s1 _ _ ha)
  ·rintro i x ys bA H' hx ⟨⟨u,rfl⟩,rfl,qG,s1⟩;have hi:i<os.length:=by have:=(Xv hx).1;simpa using this
   have ho:os[i]?=some os[i]:=by simp[hi]
   generalize os[i]=o at ho;have ex:x=bx o:=by
    rw[List.getElem?_map,ho]at hx;exact(XM hx).symm
   subst ex;have gK:(((os.take i).filterMap id).map V.int).length<sizeLine:=a_ (by
    have:=List.length_filterMap_le id (os.take i);rw[List.length_take]at this;rw[List.length_map];omega)
   have e1:os.take (i+1)=os.take i++[o]:=by rw[List.take_succ,ho];rfl
   refine⟨_,rfl,_,rfl,?_⟩;cases o with
   |none=>
    refine bj (fun hh=>absurd hh (by simp[bx])) (fun _=>?_);exact⟨⟨_,rfl⟩,by rw[e1];simp,qG,s1⟩
   |some v=>
    refine bj (fun _=>?_) (fun hh=>absurd (by simp[bx]) hh);exact⟨_,rfl,qG,gK,⟨_,rfl⟩,by rw[e1];simp[bx],ae,s1.e6 hD⟩
  ·rintro ys bA H' ⟨_,rfl,qG,s1⟩;rw[List.length_map,List.take_length]at qG;refine⟨D,os.filterMap id,rfl, .of qG,?_⟩;rw[FC];exact q H' s1
theorem F9:aJ ["number","price"] ["number","price"] (aq YQ):=⟨rfl,rfl,rfl,by decide+kernel,rfl,by decide+kernel,by decide+kernel⟩
include T in
theorem F_{f:Addr}{fd:FuncData}(F:jy K "less" "less" YQ f fd):aZ P w K mg base (de P w) true 1 f fd ["number","price"] vp:=by
 refine F.gA F9 XO (fun cc A outer s H vs Q E hr h hX=>?_)
 ·obtain⟨o,p,rfl,_⟩:=h;rfl
 ·obtain⟨o,p,rfl,q⟩:=h;refine⟨_,(XB (@aO _ _ _ _ (@m9 _ _ _ _ _ _ _ _ (XC (@mf _ _ _ _ _ (pv 0))) jj (Xw cA (pv 0) (pv 1))))),?_⟩;refine⟨_,rfl,_,rfl,?_⟩;cases o with
  |none=>
   refine kI ?_;exact q
  |some v=>
   refine bj (fun hh=>absurd hh (by simp[bx])) (fun _=>?_);exact⟨_,rfl,_,rfl,_,_,rfl,rfl,q⟩
theorem lS:aJ ["worth","brought"] ["worth","brought"] (aq fz):=⟨rfl,rfl,rfl,by decide+kernel,rfl,by decide+kernel,by decide+kernel⟩
include T in
theorem lT{f:Addr}{fd:FuncData}(F:jy K "begun_or_gone_on" "begun_or_gone_on" fz f fd):aZ P w K mg base (de P w) true 1 f fd ["worth","brought"] Yd:=by
 refine F.gA lS XO (fun cc A outer s H vs Q E hr h hX=>?_)
 ·obtain⟨w,b,rfl,_⟩:=h;rfl
 ·obtain⟨w,b,rfl,q⟩:=h;refine⟨_,(XA (XI (XC (@mf _ _ _ _ _ (pv 0))) (XB (@aO _ _ _ _ jj)) aT) (XA (XI (@PW.pt _ _ _ (@pw_or _ _ _ _ _ _ _ (XC (@mf _ _ _ _ _ (pv 1))) (@pw_or1 _ _ _ _ (@a7 _ _ _ _ _ _ _ _ m_ (pv 1) af (aW _))))) (XB (@aO _ _ _ _ (pv 0))) aT) (XB (@aO _ _ _ _ (Xw bo (pv 0) (pv 1)))))),?_⟩;refine⟨_,rfl,_,rfl,?_⟩;cases w with
  |none=>
   refine kI ?_;exact q
  |some w=>
   refine bj (fun hh=>absurd hh (by simp[bx])) (fun _=>?_);refine⟨_,rfl,_,rfl,?_⟩;cases b with
   |none=>
    refine kI ?_;refine kI ?_;exact⟨_,rfl,q⟩
   |some b=>
    refine bj (fun hh=>absurd hh (by simp[bx])) (fun _=>?_);refine⟨_,rfl,_,_,rfl,rfl,_,rfl,?_⟩;refine bj (fun hh=>?_) (fun hh=>?_)
    ·have hh:b<0:=by simpa using hh
     simp only[FA,hh,if_true]at q;exact⟨_,rfl,q⟩
    ·have hh:¬b<0:=by simpa using hh
     simp only[FA,hh,if_false]at q;exact⟨_,rfl,_,rfl,_,_,rfl,rfl,q⟩
variable(eQ:bN P w K mg base true 1 "greatest" ["numbers"] kN)
variable(ka:bN P w K mg base true 1 "less" ["number","price"] vp)
variable(Rc:Af K az)
theorem bZ:aJ ["self","ended","above","row","j","worth"] ["self","ended","above"] (aq dC):=⟨rfl,rfl,rfl,by decide+kernel,rfl,by decide+kernel,by decide+kernel⟩
include T eQ ka Rc in
theorem jq{f:Addr}{fd:FuncData}(F:gT K "brought_behind" "Trails.brought_behind" dC f fd):aZ P w K mg base (de P w) true 2 f fd ["self","ended","above"] (pJ az):=by
 refine F.gA bZ XO (fun cc A outer s H vs Q E hr h hX=>?_)
 ·obtain⟨x,e,a,dx,te,tb,o,p,m,f,g,rfl,_⟩:=h;rfl
 ·obtain⟨x,e,a,dx,te,tb,o,p,m,f1,g,rfl,hx,he,ha,hm,q⟩:=h;refine⟨_,(XA (Xp (3) bZ.nd (@cf _ _ _ _ (Xo jj ai))) (XA (@bL _ _ _ _ _ _ _ _ hX.own XS (@nG _ K _ _ _ _ _ _ _ (by exact rfl) T.iY (Xo (pv 1) ai) (XW) (XW)) (@hJ _ K _ _ _ (2) _ (by exact rfl) (@bF _ _ _ _ _ (Xr (4) bZ.nd (Or.inl rfl)) (@bF _ _ _ _ _ (Xr (5) bZ.nd (Or.inl rfl)) g9 (XW)) (XW)) (XW) (XW) (XW)) (XB (@aY _ _ _ _ (Xy K PySem.F.plainAttrs_list PySem.F.slot_list_append PySem.F.type_list_append bK (pv 3) (Xo (Xq eQ aR (Xo (@cf _ _ _ _ (Xo (pv 5) (Xo (Xq ka aR (Xo (Xs (pv 2) (Xw bo (pv 4) af)) (Xo (Xx K (pv 0)) ai))) (Xo (Xq ka aR (Xo (Xs (pv 3) (pv 4)) (Xo (Xx K (pv 0)) ai))) ai)))) ai)) ai)) (XW))) (by intro _;rfl)) (XB (@aO _ _ _ _ (pv 3))))),?_⟩;refine⟨aD XN,fun r EG=>?_⟩;refine⟨_,rfl,e,rfl,⟨_, .of (ax.upd EG _ _ he)⟩,?_⟩;have hl:=cT m f1;refine Yr (xs:=cS m f1) (fun i σ H'=>(∃u v,σ=[some (.ref x),some (.ref e),some (.ref a),some (.ref r),u,v])∧ax H H'∧H' r=some (.lst (cS (i+1) (qB f1 g o p)))) ?_ ?_ ?_ ?_
  ·exact⟨⟨_,_,rfl⟩,ax.upd EG,by rw[ae];simp[cS,qB,bx,List.range_succ]⟩
  ·rintro i σ H' _ ⟨_,s1,_⟩;exact .of (s1 _ _ he)
  ·rintro i v T' σ H' hv ⟨⟨u,u2,rfl⟩,s1,X3⟩ hT;have hi:i<m:=by have:=(Xv hv).1;omega
   rw[cU hi]at hv;cases hv;have s2:ax H (upd H' T' (.tup [.int i,bx (f1 i)])):=s1.trans (ax.upd hT);have vM:=ax.upd (o:= .tup [.int i,bx (f1 i)]) hT _ _ X3;refine⟨T',_,rfl, .of ae,rfl,_,_,rfl,_,_,rfl,rfl,?_⟩;generalize upd H' T' (.tup [.int i,bx (f1 i)])=H2 at s2 vM;have Vu:qV (cS (m+1) g) ((i:Int)+1)=some (bx (g (i+1))):=by
    have:((i:Int)+1)=((i+1:Nat):Int):=XT;rw[this];exact av (cU XQ)
   have at2:qV (cS (i+1) (qB f1 g o p)) (i:Int)=some (bx (qB f1 g o p i)):=av (cU XQ);refine⟨_,rfl, .inl ⟨rfl,_, .of vM⟩,_,rfl,_,rfl,_,rfl,_,_,rfl,rfl,a,_,_,_,rfl,rfl, .of (s2 _ _ ha),Vu,_,rfl,x,az,dx,_,_,rfl,s2 _ _ hx,Rc.cl,Rc.out,G7 o p te tb,g (i+1),o,rfl,_,rfl,_,rfl,r,_,_,_,rfl,rfl, .of vM,at2,_,rfl,x,az,dx,_,_,rfl,s2 _ _ hx,Rc.cl,Rc.into,Ds o p te tb,qB f1 g o p i,p,rfl,aD XN,fun L hL=>⟨L,[f1 i,bq (g (i+1)) o,bq (qB f1 g o p i) p],rfl,ae,XX,fun H3 s3=>?_⟩⟩;have s4:=(ax.upd (o:= .lst [bx (f1 i),bx (bq (g (i+1)) o),bx (bq (qB f1 g o p i) p)]) hL).trans s3;exact⟨r,_,_,rfl,rfl,s4 _ _ vM,a_ (by rw[cT];omega),⟨_,_,rfl⟩,(s2.trans s4).e6 EG,by rw[ae,pI (i+1)];rfl⟩
  ·rintro σ H' ⟨⟨u,v,rfl⟩,s1,X3⟩;rw[hl]at X3;exact⟨_,rfl,q H' r s1 EG X3⟩
variable(dQ:bN P w K mg base true 1 "begun_or_gone_on" ["worth","brought"] Yd)
variable(cq:dY P w K mg base true 2 az "brought_behind" ["self","ended","above"] (pJ az))
theorem cH:aJ ["self","worths","terms","width","row","above","ended"] ["self","worths","terms"] (aq d8):=⟨rfl,rfl,rfl,by decide+kernel,rfl,by decide+kernel,by decide+kernel⟩
include T Tc Rc dQ cq in
theorem mK{f:Addr}{fd:FuncData}(F:gT K "__init__" "Trails.__init__" d8 f fd):aZ P w K mg base (de P w) true 4 f fd ["self","worths","terms"] (pO az aQ):=by
 refine F.gA cH XO (fun cc A outer s H vs Q E hr h hX=>?_)
 ·obtain⟨x,dx,w,t,c,as,f,n,m,rfl,_⟩:=h;rfl
 ·obtain⟨x,dx,w,t,c,as,f1,n,m,rfl,hx,Dq,hw,TA,TF,hn,hm,q⟩:=h;obtain⟨nu,dt,l,d,vs,T1,e1,e2,e3,e4⟩:=TF;have QH:w≠x:=iC hw hx (by intro z;cases z);have Oh:t≠x:=fun z=>by
   have h1:=T1.ob;rw[z,hx]at h1;have h2:=congrArg (fun o=>match o with|some (HO.ins _ _ fs)=>fs.length| _=>0) h1;simp[ve]at h2
  refine⟨_,(XG (XJ K (pv 0) (Xx K (pv 2))) (XG (XJ K (pv 0) (Xx K (pv 2))) (XG (Xp (3) cH.nd (@m9 _ _ _ _ _ _ _ _ (@a7 _ _ _ _ _ _ _ _ rn (Xu (aM K) (by exact rfl) T.eF PyProof.Rows.Boot.«len» (Xo (pv 1) ai)) af (aW _)) (Xu (aM K) (by exact rfl) T.eF PyProof.Rows.Boot.«len» (Xo (Xs (pv 1) af) ai)) af)) (XG (XJ K (pv 0) (@cf _ _ _ _ ai)) (XG (XJ K (pv 0) (@cf _ _ _ _ (Xo (Xw II (@cf _ _ _ _ (Xo jj ai)) (Xw bo (pv 3) af)) ai))) (XB (@bL _ _ _ _ _ _ _ _ hX.own XS (@bu _ K _ _ _ (pv 1) (XW)) (Xr (4) cH.nd (Or.inl rfl)) (XG (@aC _ _ (5) _ _ _ _ cH.nd XS (Or.inr rfl) (Xs (Xx K (pv 0)) (@l0 _ _ _ _ _ _ jk af)) (XW) (by exact .inl rfl)) (XG (@nz _ _ _ _ _ _ _ _ _ _ _ _ _ _ _ (6) _ _ (by exact rfl) cH.nd XS (by exact rfl) (show br ["self","worths","terms","width","row","above","ended"] (aq d8) _ ["j","worth"] [5] ["above"]from⟨rfl,by decide+kernel,by decide+kernel,by decide+kernel,rfl,rfl,by decide+kernel,by decide+kernel,by decide+kernel⟩) (@nG _ K _ _ _ _ _ _ _ (by exact rfl) T.iY (Xo (pv 4) ai) (XW) (XW)) (fun _ _ _ _ _=>(@hJ _ K _ _ _ (2) _ (by exact rfl) (@bF _ _ _ _ _ (Xr (0) (show(["j","worth","above"]:List Str).Nodup by decide+kernel) (Or.inl rfl)) (@bF _ _ _ _ _ (Xr (1) (show(["j","worth","above"]:List Str).Nodup by decide+kernel) (Or.inl rfl)) g9 (XW)) (XW)) (XW) (XW) (XW))) (fun _ _ _ _ _=>hG) (fun _ _ _ _ _=>(Xq dQ aR (Xo (pv 1) (Xo (Xs (pv 2) (pv 0)) ai)))) (XW) (by intro _;rfl)) (XG (@aY _ _ _ _ (Xy K PySem.F.plainAttrs_list PySem.F.slot_list_append PySem.F.type_list_append bK (Xx K (pv 0)) (Xo (pv 6) ai)) (XW)) (XB (@aY _ _ _ _ (Xy K PySem.F.plainAttrs_list PySem.F.slot_list_append PySem.F.type_list_append bK (Xx K (pv 0)) (Xo (Xz (pv 0) cq (hr.mono (XU)) aR (Xo (pv 6) (Xo (pv 5) ai))) ai)) (XW)))))) (by intro _;rfl)))))))),?_⟩;refine⟨fun σ H1=>σ=[some (.ref x),some (.ref w),some (.ref t),none,none,none,none]∧H1=upd H x (.ins az dx (bb "out" (.int c.out) [])),?_,?_⟩
  ·refine⟨_,rfl,t,aQ,dt,_,_,rfl,T1.ob,Tc.cl,Tc.out,l_out nu l d,_,rfl,x,az,dx,_,rfl,hx,Rc.cl,Rc.out,XU,rfl,?_⟩;rw[e2]
  rintro σ H1 ⟨rfl,rfl⟩;refine⟨fun σ H1=>σ=[some (.ref x),some (.ref w),some (.ref t),none,none,none,none]∧H1=upd H x (.ins az dx (bb "into" (.int c.into) (bb "out" (.int c.out) []))),?_,?_⟩
  ·refine⟨_,rfl,t,aQ,dt,_,_,rfl,by rw[aj Oh];exact T1.ob,Tc.cl,Tc.into,IZ nu l d,_,rfl,x,az,dx,_,rfl,ae,Rc.cl,Rc.into,?_,rfl,?_⟩
   ·have:=aU "out" (.int c.out) [];simp at this;omega
   ·rw[fJ,e3]
  rintro σ H1 ⟨rfl,rfl⟩;refine⟨fun σ H1=>∃wd:Int,σ=[some (.ref x),some (.ref w),some (.ref t),some (.int wd),none,none,none]∧H1=upd H x (.ins az dx (bb "into" (.int c.into) (bb "out" (.int c.out) [])))∧(0<n→wd=(m:Int))∧0≤wd∧wd≤1000,?_,?_⟩
  ·have qH:upd H x (.ins az dx (bb "into" (.int c.into) (bb "out" (.int c.out) []))) w=some (.lst (as.map V.ref)):=by rw[aj QH];exact hw
   have AF:=TA.len;refine⟨_,rfl,w,_,rfl, .inl (.of qH),_,_,rfl,rfl,_,rfl,?_⟩;refine bj (fun hh=>?_) (fun hh=>?_)
   ·have hh:0<n:=by
     have:(0:Int)<((as.map V.ref).length:Int):=by simpa using hh
     rw[List.length_map]at this;omega
    obtain⟨a,X_,KA,Sq⟩:=TA.at hh;have MW:a≠x:=iC Sq hx (by intro z;cases z);have Vv:upd H x (.ins az dx (bb "into" (.int c.into) (bb "out" (.int c.out) []))) a=some (.lst (cS m (f1 0))):=by rw[aj MW];exact Sq
    refine⟨_,rfl,w,_,0,_,rfl,rfl, .of qH,av (j:=0) KA,a,_,rfl, .inl (.of Vv),_,rfl,rfl,fun _=>by rw[cT],by rw[cT];omega,by rw[cT];omega⟩
   ·have hh:n=0:=by
     have:¬(0:Int)<((as.map V.ref).length:Int):=by simpa using hh
     rw[List.length_map]at this;omega
    exact⟨_,rfl,rfl,fun z=>XT,XT,XT⟩
  rintro σ H1 ⟨wd,rfl,rfl,Vw,W6,W7⟩;refine⟨fun σ H1=>∃e,σ=[some (.ref x),some (.ref w),some (.ref t),some (.int wd),none,none,none]∧H1 x=some (.ins az dx (bb "ending" (.ref e) (bb "into" (.int c.into) (bb "out" (.int c.out) []))))∧SameBut x H H1∧H e=none∧H1 e=some (.lst []),?_,?_⟩
  ·refine⟨aD XN,fun e he=>?_⟩;have wI:SameBut x H (upd H x (.ins az dx (bb "into" (.int c.into) (bb "out" (.int c.out) [])))):=SameBut.refl.upd;have Sr:x≠e:=aA ae he;have Hq:=wI.free ae he;refine⟨_,rfl,x,az,dx,_,rfl,by rw[aj Sr,ae],Rc.cl,Rc.jY,?_,e,rfl,ae,(wI.laid Hq).upd,Hq,by rw[aj (Ne.symm Sr),ae]⟩;have a1:=aU "into" (.int c.into) (bb "out" (.int c.out) []);have a2:=aU "out" (.int c.out) [];simp at a2;omega
  rintro σ H1 ⟨e,rfl,kP,wI,Hq,Y0⟩;refine⟨fun σ H2=>∃b ab,σ=[some (.ref x),some (.ref w),some (.ref t),some (.int wd),none,none,none]∧H2 x=some (.ins az dx (gf c.out c.into e b))∧SameBut x H H2∧H2 e=some (.lst [])∧H b=none∧e≠b∧H2 b=some (.lst [.ref ab])∧(0<n→H2 ab=some (.lst (cS (m+1) (Bq f1 c.out c.into 0))))∧ab≠e∧ab≠b∧H ab=none,?_,?_⟩
  ·refine⟨aD XN,fun l1 kr=>⟨_,rfl,_,_,rfl,rfl,l1,_,_,rfl,rfl,ae,XT,XT,aD (by simp;omega),fun ab D1=>⟨aD XN,fun b hb=>?_⟩⟩⟩;have s1:ax H1 (upd (upd (upd H1 l1 (.lst [.cJ])) ab (.lst (List.replicate (wd+1).toNat [V.cJ]).flatten)) b (.lst [.ref ab])):=((ax.upd kr).trans (ax.upd D1)).trans (ax.upd hb);have g7:H1 b=none:=((ax.upd kr).trans (ax.upd D1)).free hb;have X7:=s1 _ _ kP;have Vx:x≠b:=aA kP g7;have Hr:ab≠b:=aA ae hb;refine⟨_,rfl,x,az,dx,_,rfl,X7,Rc.cl,Rc.iZ,?_,b,ab,rfl,by rw[ae,Ml],(wI.same s1).upd,?_,wI.free kP g7,aA Y0 g7,?_,fun h0=>?_,?_,Hr,wI.free kP ((ax.upd kr).free D1)⟩
   ·have a0:=aU "ending" (.ref e) (bb "into" (.int c.into) (bb "out" (.int c.out) []));have a1:=aU "into" (.int c.into) (bb "out" (.int c.out) []);have a2:=aU "out" (.int c.out) [];simp at a2;omega
   ·have:e≠x:=iC Y0 kP (by intro z;cases z);rw[aj this];exact s1 _ _ Y0
   ·rw[aj (Ne.symm Vx),ae]
   ·have Ss:ab≠x:=fun z=>by rw[z]at D1;rw[(ax.upd kr) _ _ kP]at D1;cases D1
    rw[aj Ss,aj Hr,ae,Vw h0]
    congr 1
    have:((m:Int)+1).toNat=m+1:=XT;rw[this]
    congr 1
    apply List.ext_getElem?;intro k;by_cases hk:k<m+1
    ·rw[cU hk,hU];simp[bx,hk]
    ·rw[List.getElem?_eq_none (by simp;omega),List.getElem?_eq_none (by rw[cT];omega)]
   ·exact Ne.symm (aA ((ax.upd kr) _ _ Y0) D1)
  clear kP wI Y0 H1;rintro σ H1 ⟨b,ab,rfl,kP,wI,Y0,Su,Sx,g7,F',MY,Hr,Cd⟩;refine⟨_,rfl,w,rfl,⟨_, .of (wI _ _ QH hw)⟩,?_⟩;refine cG (xs:=as.map V.ref) (fun i σ H'=>(∃u1 u2 u3,σ=[some (.ref x),some (.ref w),some (.ref t),some (.int wd),u1,u2,u3])∧H' x=some (.ins az dx (gf c.out c.into e b))∧SameBut x H H'∧∃(es:List Addr)(bs:List V)(ab:Addr),H' e=some (.lst (es.map V.ref))∧iI H' es (dh f1 c.out c.into) i m∧(∀a∈es,H a=none∧a≠e∧a≠b∧a≠x)∧H' b=some (.lst (bs++[.ref ab]))∧bs.length=i∧(0<n→H' ab=some (.lst (cS (m+1) (Bq f1 c.out c.into i))))∧ab≠e∧ab≠b∧H ab=none∧∃bz:List Addr,bs=bz.map V.ref∧∀k a,bz[k]?=some a→H' a=some (.lst (cS (m+1) (Bq f1 c.out c.into k)))∧a≠e∧a≠b∧H a=none) ?_ ?_ ?_ ?_
  ·exact⟨⟨_,_,_,rfl⟩,kP,wI,[],[],ab,Y0,⟨rfl,fun i a h=>by simp at h⟩,(fun a h=>by cases h),g7,rfl,F',MY,Hr,Cd,[],rfl,fun k a h=>by simp at h⟩
  ·rintro i σ H' _ ⟨_,_,sb,_⟩;exact .of (sb _ _ QH hw)
  ·clear kP wI Y0 g7 F' MY Hr Cd ab H1;rintro i v σ H' hv ⟨⟨u1,u2,u3,rfl⟩,kP,wI,es,bs,ab,Y0,TE,MZ,g7,Ga,F',MY,Hr,Cd,bz,M0,BZ⟩;have AF:=TA.len;have hi:i<n:=by have:=(Xv hv).1;rw[List.length_map]at this;omega
   obtain⟨ra,EG,X3,vM⟩:=TA.at hi;rw[X3]at hv;cases hv;have Vy:ra≠x:=iC vM hx (by intro z;cases z);have Oi:=wI _ _ Vy vM;have BQ:=F' XQ;refine⟨fun σ H2=>σ=[some (.ref x),some (.ref w),some (.ref t),some (.int wd),some (.ref ra),some (.ref ab),u3]∧H2=H',?_,?_⟩
   ·exact⟨_,rfl,x,az,dx,_,_,rfl,kP,Rc.cl,Rc.iZ,gq c.out c.into e b,_,rfl,b,_,_,_,rfl,rfl, .of g7,rB _ _,rfl,rfl⟩
   rintro σ H' ⟨rfl,rfl⟩;refine⟨fun σ H2=>∃D,σ=[some (.ref x),some (.ref w),some (.ref t),some (.int wd),some (.ref ra),some (.ref ab),some (.ref D)]∧ax H' H2∧H' D=none∧H2 D=some (.lst (cS m (dh f1 c.out c.into i))),?_,?_⟩
   ·refine⟨_,rfl,ra,rfl,⟨_, .of Oi⟩,fun D hD=>?_⟩;refine uy (xs:=cS m (f1 i)) (fun j ys bA H2=>(∃w1 w2,bA=[w1,w2,some (.ref ab)])∧ys=cS j (dh f1 c.out c.into i)∧H2 D=some (.lst ys)∧ax H' H2) ⟨⟨_,_,rfl⟩,rfl,ae,ax.upd hD⟩ ?_ ?_ ?_
    ·rintro j ys bA H2 _ ⟨_,_,_,s2⟩;exact .of (s2 _ _ Oi)
    ·rintro j y T2 ys bA H2 hy ⟨⟨w1,w2,rfl⟩,rfl,jI,s2⟩ M4;have hj:j<m:=by have:=(Xv hy).1;rw[cT]at this;exact this
     rw[cU hj]at hy;cases hy;have s3:ax H' (upd H2 T2 (.tup [.int j,bx (f1 i j)])):=s2.trans (ax.upd M4);have BP:=ax.upd (o:= .tup [.int j,bx (f1 i j)]) M4 _ _ jI;refine⟨T2,_,rfl, .of ae,rfl,_,_,rfl,_,_,rfl,rfl,?_⟩;refine u_ ?_;refine⟨_,rfl,_,rfl,_,rfl,ab,_,_,_,rfl,rfl, .of (s3 _ _ BQ),av (cU XQ),f1 i j,Bq f1 c.out c.into i j,rfl,BP,a_ (by rw[cT];omega),⟨_,_,rfl⟩,by rw[pI];rfl,ae,s3.e6 hD⟩
    ·rintro ys bA H2 ⟨_,rfl,jI,s2⟩;rw[cT]at jI;exact⟨D,rfl,s2,hD,jI⟩
   rintro σ H2 ⟨D,rfl,s2,Oj,jI⟩;have X7:=s2 _ _ kP;have KJ:=s2 _ _ Y0;have X4:=s2 _ _ g7;have QI:=s2 _ _ BQ;have Vz:D≠x:=Ne.symm (aA kP Oj);have Sy:D≠e:=Ne.symm (aA Y0 Oj);have Sz:D≠b:=Ne.symm (aA g7 Oj);have VA:e≠x:=iC Y0 kP (by intro z;cases z);have VB:b≠x:=iC g7 kP (by intro z;cases z);have Ss:ab≠x:=iC BQ kP (by intro z;cases z);have Gb:=TE.len;have VC:H D=none:=wI.free kP Oj;have QJ:=wI.same s2;refine⟨fun σ H3=>σ=[some (.ref x),some (.ref w),some (.ref t),some (.int wd),some (.ref ra),some (.ref ab),some (.ref D)]∧H3=upd H2 e (.lst (es.map V.ref++[.ref D])),?_,?_⟩
   ·exact⟨_,rfl,x,az,dx,_,_,rfl,X7,Rc.cl,Rc.jY,gO c.out c.into e b, .inl ⟨rfl,_, .of KJ⟩,_,rfl,e,_,_,rfl,rfl,KJ,a_ (by rw[List.length_map];omega),rfl,rfl⟩
   rintro σ H3 ⟨rfl,rfl⟩;have KL:upd H2 e (.lst (es.map V.ref++[.ref D])) x=some (.ins az dx (gf c.out c.into e b)):=by rw[aj (Ne.symm VA)];exact X7
   have KN:upd H2 e (.lst (es.map V.ref++[.ref D])) b=some (.lst (bs++[.ref ab])):=by rw[aj (Ne.symm Sx)];exact X4
   have J3:upd H2 e (.lst (es.map V.ref++[.ref D])) ab=some (.lst (cS (m+1) (Bq f1 c.out c.into i))):=by rw[aj MY];exact QI
   have BP:upd H2 e (.lst (es.map V.ref++[.ref D])) D=some (.lst (cS m (dh f1 c.out c.into i))):=by rw[aj Sy];exact jI
   have EH:upd H2 e (.lst (es.map V.ref++[.ref D])) e=some (.lst (es.map V.ref++[.ref D])):=ae;have QK:SameBut x H (upd H2 e (.lst (es.map V.ref++[.ref D]))):=QJ.laid Hq;have SA:∀k a,es[k]?=some a→upd H2 e (.lst (es.map V.ref++[.ref D])) a=some (.lst (cS m (dh f1 c.out c.into k))):=fun k a hk=>by
    rw[aj (MZ a (XF hk)).2.1];exact s2 _ _ (TE.row k a hk)
   have SD:∀k a,bz[k]?=some a→upd H2 e (.lst (es.map V.ref++[.ref D])) a=some (.lst (cS (m+1) (Bq f1 c.out c.into k))):=fun k a hk=>by
    rw[aj (BZ k a hk).2.1];exact s2 _ _ (BZ k a hk).1
   generalize upd H2 e (.lst (es.map V.ref++[.ref D]))=H3 at KL KN J3 BP EH QK SA SD;refine⟨_,rfl,x,az,dx,_,_,rfl,KL,Rc.cl,Rc.iZ,gq c.out c.into e b, .inl ⟨rfl,_, .of KN⟩,_,rfl,x,dx,_,rfl,KL,Dt c.out c.into e b,_,rfl,_,rfl,x,D,ab,dx,e,b,c.out,c.into,m,_,_,rfl,KL,BP,J3,hm,fun H4 r s4 qI VD=>?_⟩;have SE:r≠b:=Ne.symm (aA KN qI);have VE:r≠e:=Ne.symm (aA EH qI);refine⟨b,_,_,rfl,rfl,s4 _ _ KN,a_ (by rw[List.length_append];simp;omega),⟨_,_,_,rfl⟩,by rw[aj (Ne.symm VB)];exact s4 _ _ KL,(QK.same s4).laid Su,es++[D],bs++[.ref ab],r,by rw[aj Sx];rw[s4 _ _ EH];simp,⟨by simp[Gb],fun k a hk=>?_⟩,fun a ha=>?_,ae,by simp[Ga],fun _=>?_,VE,SE,QK.free KL qI,bz++[ab],by simp[M0],fun k a hk=>?_⟩
   ·by_cases h:k<i
    ·rw[List.getElem?_append_left XQ]at hk;rw[aj (MZ a (XF hk)).2.2.1];exact s4 _ _ (SA k a hk)
    ·rw[List.getElem?_append_right XQ]at hk;have Bt:k-es.length=0:=by
      have:=(Xv hk).1;simp at this;omega
     rw[Bt]at hk;have:D=a:=by simpa using hk
     subst this;rw[aj Sz];have:k=i:=XT;rw[this];exact s4 _ _ BP
   ·rcases List.mem_append.mp ha with ha|ha
    ·exact MZ a ha
    ·have:a=D:=by simpa using ha
     rw[this];exact⟨VC,Sy,Sz,Vz⟩
   ·rw[aj SE,VD]
    congr 2
    unfold cS;apply List.map_congr_left;intro j _;rw[Ag]
   ·have M5:bz.length=i:=by rw[M0,List.length_map]at Ga;exact Ga
    by_cases h:k<i
    ·rw[List.getElem?_append_left XQ]at hk;obtain⟨_,z1,z2,z3⟩:=BZ k a hk;exact⟨by rw[aj z2];exact s4 _ _ (SD k a hk),z1,z2,z3⟩
    ·rw[List.getElem?_append_right XQ]at hk;have Bt:k-bz.length=0:=by
      have:=(Xv hk).1;simp at this;omega
     rw[Bt]at hk;have:ab=a:=by simpa using hk
     subst this;have:k=i:=XT;subst this;exact⟨by rw[aj Hr];exact s4 _ _ J3,MY,Hr,Cd⟩
  ·rintro σ H' ⟨⟨u1,u2,u3,rfl⟩,X7,QJ,es,bs,QL,KJ,TE,MZ,X4,Ga,BQ,VF,VG,KA,bz,M0,BZ⟩;rw[List.length_map,TA.len]at TE Ga BQ;have M5:bz.length=n:=by rw[M0,List.length_map]at Ga;exact Ga
   refine q H' e b QJ X7 ⟨es,KJ,Hq,TE,fun a ha=>(MZ a ha).1⟩ fun QM=>⟨bz++[QL],by rw[X4,M0];simp,Su,⟨by simp[M5],fun k a hk=>?_⟩,fun a ha=>?_⟩
   ·by_cases h:k<n
    ·rw[List.getElem?_append_left XQ]at hk;exact(BZ k a hk).1
    ·rw[List.getElem?_append_right XQ]at hk;have Bt:k-bz.length=0:=by
      have:=(Xv hk).1;simp at this;omega
     rw[Bt]at hk;have:QL=a:=by simpa using hk
     subst this;have:k=n:=XT;subst this;exact BQ QM
   ·rcases List.mem_append.mp ha with ha|ha
    ·obtain⟨k,hk,rfl⟩:=List.mem_iff_getElem.mp ha;exact(BZ k _ (by simp[hk])).2.2.2
    ·have:a=QL:=by simpa using ha
     rw[this];exact KA
theorem i7:aJ ["self","pair","brought"] ["self","pair"] (aq gv):=⟨rfl,rfl,rfl,by decide+kernel,rfl,by decide+kernel,by decide+kernel⟩
include T Rc in
theorem nY{f:Addr}{fd:FuncData}(F:gT K "goes_on" "Trails.goes_on" gv f fd):aZ P w K mg base (de P w) true 1 f fd ["self","pair"] (vB az):=by
 refine F.gA i7 XO (fun cc A outer s H vs Q E hr h hX=>?_)
 ·obtain⟨x,dx,e,b,es,bs,f,o,p,n,m,pr,i,j,rfl,_⟩:=h;rfl
 ·obtain⟨x,dx,e,b,es,bs,f1,o,p,n,m,pr,i,j,rfl,TR,AK,hi,hj,q⟩:=h;refine⟨_,(XA (Xp (2) i7.nd (Xs (Xs (Xx K (pv 0)) (@aB _ _ _ _ _ _ _ (cn K) (pv 1) af (fun _ _=>rfl))) (@aB _ _ _ _ _ _ _ (cn K) (pv 1) af (fun _ _=>rfl)))) (XB (@aO _ _ _ _ (@rk _ _ _ _ _ _ _ (@Yg _ _ _ _ _ _ (@m8 _ _ _ _ _ (pv 2)) (by first|exact bE _ (XU) (XU)|rfl)) (@o_ _ _ _ _ _ (@fj _ _ _ _ _ _ _ _ Cr (pv 2) af (aW _))))))),?_⟩;obtain⟨ra,h1,h2,h3⟩:=TR.tb.at (show i<n+1 by omega);refine⟨_,rfl,x,az,dx,_,_,rfl,TR.ob,Rc.cl,Rc.iZ,gq o p e b,_,rfl,pr,_,_,_,rfl,rfl, .of AK,av (j:=0) rfl,b,_,_,_,rfl,rfl, .of TR.hb,av h2,_,rfl,pr,_,_,_,rfl,rfl, .of AK,av (j:=1) rfl,ra,_,_,_,rfl,rfl, .of h3,av (cU (show j<m+1 by omega)),?_⟩;refine⟨_,rfl,?_⟩;cases eB:Bq f1 o p i j with
  |none=>
   rw[eB]at q;exact⟨_,rfl,bj (fun hh=>absurd hh (by simp[bx])) fun _=>q⟩
  |some v=>
   rw[eB]at q;exact⟨_,rfl,bj (fun _=>⟨_,rfl,_,_,rfl,rfl,q⟩) fun hh=>absurd (by simp[bx]) hh⟩
theorem jJ:aJ ["self","crossing","pair"] ["self","crossing","pair"] (aq dN):=⟨rfl,rfl,rfl,by decide+kernel,rfl,by decide+kernel,by decide+kernel⟩
include T Rc in
theorem jK{f:Addr}{fd:FuncData}(F:gT K "is_brought_by" "Trails.is_brought_by" dN f fd):aZ P w K mg base (de P w) true 1 f fd ["self","crossing","pair"] (YV az):=by
 refine F.gA jJ XO (fun cc A outer s H vs Q E hr h hX=>?_)
 ·obtain⟨x,dx,e,b,es,bs,f,o,p,n,m,cr,pr,i,j,k,l,rfl,_⟩:=h;rfl
 ·obtain⟨x,dx,e,b,es,bs,f1,o,p,n,m,cr,pr,i,j,k,l,rfl,TR,Hs,AK,hi,hj,hk,hl,q⟩:=h;refine⟨_,(XB (@aO _ _ _ _ (@fj _ _ _ _ _ _ _ _ iD (Xs (Xs (Xx K (pv 0)) (@aB _ _ _ _ _ _ _ (cn K) (pv 2) af (fun _ _=>rfl))) (@aB _ _ _ _ _ _ _ (cn K) (pv 2) af (fun _ _=>rfl))) (Xs (Xs (Xx K (pv 0)) (@aB _ _ _ _ _ _ _ (cn K) (pv 1) af (fun _ _=>rfl))) (@aB _ _ _ _ _ _ _ (cn K) (pv 1) af (fun _ _=>rfl))) (aW _)))),?_⟩;obtain⟨ra,h1,h2,h3⟩:=TR.tb.at (show i<n+1 by omega);obtain⟨rb,g1,g2,g3⟩:=TR.te.at hk;refine⟨_,rfl,x,az,dx,_,_,rfl,TR.ob,Rc.cl,Rc.jY,gO o p e b,_,rfl,pr,_,_,_,rfl,rfl, .of AK,av (j:=0) rfl,e,_,_,_,rfl,rfl, .of TR.he,av g2,_,rfl,pr,_,_,_,rfl,rfl, .of AK,av (j:=1) rfl,rb,_,_,_,rfl,rfl, .of g3,av (cU hl),?_⟩;refine⟨_,rfl,x,az,dx,_,_,rfl,TR.ob,Rc.cl,Rc.iZ,gq o p e b,_,rfl,cr,_,_,_,rfl,rfl, .of Hs,av (j:=0) rfl,b,_,_,_,rfl,rfl, .of TR.hb,av h2,_,rfl,cr,_,_,_,rfl,rfl, .of Hs,av (j:=1) rfl,ra,_,_,_,rfl,rfl, .of h3,av (cU (show j<m+1 by omega)),?_⟩;have Ht:∀a c:Option Int,decide (bx a=bx c)=decide (a=c):=fun a c=>by cases a<;>cases c<;>simp[bx]
  refine⟨by cases dh f1 o p k l<;>cases Bq f1 o p i j<;>rfl,?_⟩;rw[Ht];exact q
theorem ba:aJ ["self","crossing","i","j","brought","found"] ["self","crossing"] (aq cL):=⟨rfl,rfl,rfl,by decide+kernel,rfl,by decide+kernel,by decide+kernel⟩
include T ka Rc in
theorem iP{f:Addr}{fd:FuncData}(F:gT K "crossings_before" "Trails.crossings_before" cL f fd):aZ P w K mg base (de P w) true 2 f fd ["self","crossing"] (rO az):=by
 refine F.gA ba XO (fun cc A outer s H vs Q E hr h hX=>?_)
 ·obtain⟨x,dx,e,b,es,bs,f,o,p,n,m,cr,i,j,rfl,_⟩:=h;rfl
 ·obtain⟨x,dx,e,b,es,bs,f1,o,p,n,m,cr,i,j,rfl,TR,Hs,hi,hj,q⟩:=h;refine⟨_,(XG (Xp (2) ba.nd (@aB _ _ _ _ _ _ _ (cn K) (pv 1) af (fun _ _=>rfl))) (XG (Xp (3) ba.nd (@aB _ _ _ _ _ _ _ (cn K) (pv 1) af (fun _ _=>rfl))) (XG (Xp (4) ba.nd (Xs (Xs (Xx K (pv 0)) (pv 2)) (pv 3))) (XG (Xp (5) ba.nd (@cf _ _ _ _ ai)) (XG (XI (@a7 _ _ _ _ _ _ _ _ iD (Xq ka aR (Xo (Xs (Xs (Xx K (pv 0)) (Xw cA (pv 2) af)) (pv 3)) (Xo (Xx K (pv 0)) ai))) (pv 4) (aW _)) (XB (@aY _ _ _ _ (Xy K PySem.F.plainAttrs_list PySem.F.slot_list_append PySem.F.type_list_append bK (pv 5) (Xo (@fK _ _ _ _ _ (Xo (Xw cA (pv 2) af) (Xo (pv 3) ai))) ai)) (XW))) aT) (XG (XI (@a7 _ _ _ _ _ _ _ _ iD (Xq ka aR (Xo (Xs (Xs (Xx K (pv 0)) (pv 2)) (Xw cA (pv 3) af)) (Xo (Xx K (pv 0)) ai))) (pv 4) (aW _)) (XB (@aY _ _ _ _ (Xy K PySem.F.plainAttrs_list PySem.F.slot_list_append PySem.F.type_list_append bK (pv 5) (Xo (@fK _ _ _ _ _ (Xo (pv 2) (Xo (Xw cA (pv 3) af) ai))) ai)) (XW))) aT) (XB (@aO _ _ _ _ (pv 5))))))))),?_⟩;have Ht:∀a c:Option Int,decide (bx a=bx c)=decide (a=c):=fun a c=>by cases a<;>cases c<;>simp[bx]
  obtain⟨ra,h1,h2,h3⟩:=TR.tb.at (show i<n+1 by omega);obtain⟨rb,g1,g2,g3⟩:=TR.tb.at (show i+1<n+1 by omega);refine⟨fun σ H1=>σ=[some (.ref x),some (.ref cr),some (.int ((i+1:Nat):Int)),none,none,none]∧H1=H,⟨_,rfl,cr,_,_,_,rfl,rfl, .of Hs,av (j:=0) rfl,rfl,rfl⟩,?_⟩;rintro σ H ⟨rfl,rfl⟩;refine⟨fun σ H1=>σ=[some (.ref x),some (.ref cr),some (.int ((i+1:Nat):Int)),some (.int ((j+1:Nat):Int)),none,none]∧H1=H,⟨_,rfl,cr,_,_,_,rfl,rfl, .of Hs,av (j:=1) rfl,rfl,rfl⟩,?_⟩;rintro σ H ⟨rfl,rfl⟩;refine⟨fun σ H1=>σ=[some (.ref x),some (.ref cr),some (.int ((i+1:Nat):Int)),some (.int ((j+1:Nat):Int)),some (bx (Bq f1 o p (i+1) (j+1))),none]∧H1=H,⟨_,rfl,x,az,dx,_,_,rfl,TR.ob,Rc.cl,Rc.iZ,gq o p e b,_,rfl,b,_,_,_,rfl,rfl, .of TR.hb,av g2,_,rfl,rb,_,_,_,rfl,rfl, .of g3,av (cU (show j+1<m+1 by omega)),rfl,rfl⟩,?_⟩;rintro σ H ⟨rfl,rfl⟩;refine⟨fun σ H1=>∃r,σ=[some (.ref x),some (.ref cr),some (.int ((i+1:Nat):Int)),some (.int ((j+1:Nat):Int)),some (bx (Bq f1 o p (i+1) (j+1))),some (.ref r)]∧ax H H1∧H r=none∧H1 r=some (.lst []),⟨aD XN,fun r hr=>⟨r,rfl,ax.upd hr,hr,ae⟩⟩,?_⟩;rintro σ H1 ⟨r,rfl,s1,qI,EG⟩;refine⟨fun σ H2=>∃us,σ=[some (.ref x),some (.ref cr),some (.int ((i+1:Nat):Int)),some (.int ((j+1:Nat):Int)),some (bx (Bq f1 o p (i+1) (j+1))),some (.ref r)]∧ax H H2∧H2 r=some (.lst us)∧eG H2 us (if bq (Bq f1 o p i (j+1)) o=Bq f1 o p (i+1) (j+1)then[((i:Int),((j+1:Nat):Int))]else[]),?_,?_⟩
  ·have T1:=TR.keep s1;have ea:qV (bs.map V.ref) (((i+1:Nat):Int)-1)=some (.ref ra):=by
    rw[show((i+1:Nat):Int)-1=(i:Int) by omega];exact av h2
   refine⟨_,rfl,x,az,dx,_,_,rfl,T1.ob,Rc.cl,Rc.iZ,gq o p e b,_,rfl,_,_,rfl,rfl,b,_,_,_,rfl,rfl, .of T1.hb,ea,_,rfl,ra,_,_,_,rfl,rfl, .of (s1 _ _ h3),av (cU (show j+1<m+1 by omega)),?_⟩;refine⟨_,rfl,x,az,dx,_,_,rfl,T1.ob,Rc.cl,Rc.out,G7 o p e b,Bq f1 o p i (j+1),o,rfl,?_⟩;refine⟨_,rfl,by cases bq (Bq f1 o p i (j+1)) o<;>cases Bq f1 o p (i+1) (j+1)<;>rfl,_,rfl,?_⟩;rw[Ht];refine bj (fun hh=>?_) (fun hh=>?_)
   ·have hh:bq (Bq f1 o p i (j+1)) o=Bq f1 o p (i+1) (j+1):=of_decide_eq_true hh;rw[XH hh];refine⟨_,rfl, .inl ⟨rfl,_, .of EG⟩,_,rfl,_,_,rfl,rfl,_,rfl,aD XN,fun t ht=>?_⟩;refine⟨r,_,_,rfl,rfl,ax.upd ht _ _ EG,a_ XN,_,rfl,(s1.trans (ax.upd ht)).e6 qI,ae,rfl,fun k f hf=>?_⟩;have hk:k=0:=by
     have:=(Xv hf).1;simp at this;omega
    subst hk;have hf:((i:Int),((j+1:Nat):Int))=f:=by simpa using hf
    subst hf;refine⟨t,rfl,?_⟩;rw[aj (fun z=>by subst z;rw[EG]at ht;cases ht),ae];rw[show((i+1:Nat):Int)-1=(i:Int) by omega];rfl
   ·have hh:¬bq (Bq f1 o p i (j+1)) o=Bq f1 o p (i+1) (j+1):=by simpa using hh
    rw[XE hh];exact⟨[],rfl,s1,EG, .nil⟩
  rintro σ H2 ⟨us,rfl,s2,X3,P2⟩;have T2:=TR.keep s2;have W8:us.length≤1:=by
   rw[P2.1];split<;>simp
  have eb:qV (cS (m+1) (Bq f1 o p (i+1))) (((j+1:Nat):Int)-1)=some (bx (Bq f1 o p (i+1) j)):=by
   rw[show((j+1:Nat):Int)-1=(j:Int) by omega];exact av (cU (show j<m+1 by omega))
  refine⟨fun σ H3=>∃us,σ=[some (.ref x),some (.ref cr),some (.int ((i+1:Nat):Int)),some (.int ((j+1:Nat):Int)),some (bx (Bq f1 o p (i+1) (j+1))),some (.ref r)]∧ax H H3∧H3 r=some (.lst us)∧eG H3 us (bf f1 o p i j),?_,?_⟩
  ·refine⟨_,rfl,x,az,dx,_,_,rfl,T2.ob,Rc.cl,Rc.iZ,gq o p e b,_,rfl,b,_,_,_,rfl,rfl, .of T2.hb,av g2,_,rfl,_,_,rfl,rfl,rb,_,_,_,rfl,rfl, .of (s2 _ _ g3),eb,?_⟩;refine⟨_,rfl,x,az,dx,_,_,rfl,T2.ob,Rc.cl,Rc.into,Ds o p e b,Bq f1 o p (i+1) j,p,rfl,?_⟩;refine⟨_,rfl,by cases bq (Bq f1 o p (i+1) j) p<;>cases Bq f1 o p (i+1) (j+1)<;>rfl,_,rfl,?_⟩;rw[Ht];refine bj (fun hh=>?_) (fun hh=>?_)
   ·have hh:bq (Bq f1 o p (i+1) j) p=Bq f1 o p (i+1) (j+1):=of_decide_eq_true hh;refine⟨_,rfl, .inl ⟨rfl,_, .of X3⟩,_,rfl,_,rfl,_,_,rfl,rfl,aD XN,fun t ht=>?_⟩;have s3:=ax.upd (o:= .tup [.int ((i+1:Nat):Int), .int (((j+1:Nat):Int)-1)]) ht;have SF:t≠r:=fun z=>by subst z;rw[X3]at ht;cases ht
    refine⟨r,_,_,rfl,rfl,s3 _ _ X3,a_ XQ,_,rfl,(s2.trans s3).e6 qI,ae,?_⟩;unfold bf;rw[XH hh];refine((P2.same s3).append ⟨rfl,fun k f hf=>?_⟩).cF fun a ys ha=>?_
    ·have hk:k=0:=by
      have:=(Xv hf).1;simp at this;omega
     subst hk;have hf:(((i+1:Nat):Int),(j:Int))=f:=by simpa using hf
     subst hf;refine⟨t,rfl,?_⟩;rw[ae,show((j+1:Nat):Int)-1=(j:Int) by omega];rfl
    ·have d6:a≠r:=fun z=>by subst z;rw[s3 _ _ X3]at ha;cases ha
     rw[aj d6];exact ha
   ·have hh:¬bq (Bq f1 o p (i+1) j) p=Bq f1 o p (i+1) (j+1):=by simpa using hh
    refine⟨us,rfl,s2,X3,?_⟩;unfold bf;rw[XE hh,List.append_nil];exact P2
  rintro σ H3 ⟨us,rfl,s3,vM,P3⟩;exact⟨_,rfl,q H3 r us s3 qI vM P3⟩
variable(a9:dY P w K mg base true 1 az "is_brought_by" ["self","crossing","pair"] (YV az))
variable(aV:dY P w K mg base true 2 az "crossings_before" ["self","crossing"] (rO az))
theorem bQ:aJ ["self","pair","crossing","ahead"] ["self","pair"] (aq eK):=⟨rfl,rfl,rfl,by decide+kernel,rfl,by decide+kernel,by decide+kernel⟩
include T Rc a9 aV in
theorem kz{f:Addr}{fd:FuncData}(F:gT K "pair_before" "Trails.pair_before" eK f fd):aZ P w K mg base (de P w) true 3 f fd ["self","pair"] (vC az):=by
 refine F.gA bQ XO (fun cc A outer s H vs Q E hr h hX=>?_)
 ·obtain⟨x,dx,e,b,es,bs,f,o,p,n,m,pr,i,j,rfl,_⟩:=h;rfl
 ·obtain⟨x,dx,e,b,es,bs,f1,o,p,n,m,pr,i,j,rfl,TR,AK,hi,hj,hB,q⟩:=h;refine⟨_,(XA (Xp (2) bQ.nd (pv 1)) (XA (Xp (3) bQ.nd (@fK _ _ _ _ _ (Xo (Xw cA (@aB _ _ _ _ _ _ _ (cn K) (pv 2) af (fun _ _=>rfl)) af) (Xo (Xw cA (@aB _ _ _ _ _ _ _ (cn K) (pv 2) af (fun _ _=>rfl)) af) ai)))) (XA (@rl _ _ _ _ _ _ hX.own (@gi _ _ _ _ (@dI _ _ _ (Xz (pv 0) a9 (hr.mono (XU)) aR (Xo (pv 2) (Xo (pv 3) ai))) (by intro _;rfl))) (XA (Xp (2) bQ.nd (Xs (Xz (pv 0) aV (hr.mono (XU)) aR (Xo (pv 2) ai)) af)) (XB (Xp (3) bQ.nd (@fK _ _ _ _ _ (Xo (Xw cA (@aB _ _ _ _ _ _ _ (cn K) (pv 2) af (fun _ _=>rfl)) af) (Xo (Xw cA (@aB _ _ _ _ _ _ _ (cn K) (pv 2) af (fun _ _=>rfl)) af) ai))))))) (XB (@aO _ _ _ _ (pv 3)))))),?_⟩;obtain⟨i,rfl⟩:∃i',i=i'+1:=by
   cases i with
   |zero=>exact absurd (hU f1 o p j) hB
   |succ i=>exact⟨i,rfl⟩
  obtain⟨j,rfl⟩:∃j',j=j'+1:=by
   cases j with
   |zero=>exact absurd (by unfold Bq;rfl) hB
   |succ j=>exact⟨j,rfl⟩
  refine⟨_,rfl,_,rfl,pr,_,_,_,rfl,rfl, .of AK,av (j:=0) rfl,_,_,rfl,rfl,_,rfl,pr,_,_,_,rfl,rfl, .of AK,av (j:=1) rfl,_,_,rfl,rfl,aD XN,fun t ht=>?_⟩;refine⟨fun mm σ H1=>∃(cr ah:Addr)(i2 j2:Nat),mm=i2+j2∧σ=[some (.ref x),some (.ref pr),some (.ref cr),some (.ref ah)]∧ax H H1∧H1 cr=some (.tup [.int ((i2+1:Nat):Int), .int ((j2+1:Nat):Int)])∧H1 ah=some (.tup [.int i2, .int j2])∧i2<n∧j2<m∧Bq f1 o p (i2+1) (j2+1)≠none∧cD f1 o p (i2+1) (j2+1)=cD f1 o p (i+1) (j+1),⟨i+j,pr,t,i,j,rfl,rfl,ax.upd ht,ax.upd ht _ _ AK,?_,XT,XT,hB,rfl⟩,?_⟩
  ·rw[ae,show((i+1:Nat):Int)-1=(i:Int) by omega,show((j+1:Nat):Int)-1=(j:Int) by omega]
  rintro mm σ H1 ⟨cr,ah,i2,j2,rfl,rfl,s1,Hs,SG,EB,QN,KO,SH⟩;have T1:=TR.keep s1;refine⟨_,rfl,x,dx,_,rfl,T1.ob,Hh o p e b,_,rfl,_,rfl,x,dx,e,b,es,bs,f1,o,p,n,m,cr,ah,i2+1,j2+1,i2,j2,rfl,T1,Hs,SG,XT,XT,EB,QN,?_⟩;refine⟨_,rfl,?_⟩;by_cases hE:dh f1 o p i2 j2=Bq f1 o p (i2+1) (j2+1)
  ·rw[decide_eq_true hE];refine jU ?_;refine⟨_,rfl,q H1 ah s1 ?_⟩;have:cD f1 o p (i2+1) (j2+1)=(i2,j2):=by unfold cD;rw[XH hE]
   rw[←SH,this];exact SG
  ·rw[decide_eq_false hE];refine kI ?_;refine⟨_,fun bA H' z=>z,?_⟩;obtain⟨i3,j3,c0,c1,c2,c3,c4,c5⟩:=xB KO hE;refine⟨_,rfl,x,dx,_,rfl,T1.ob,Ay o p e b,_,rfl,x,dx,e,b,es,bs,f1,o,p,n,m,cr,i2,j2,rfl,T1,Hs,EB,QN,fun H2 r us s2 qI X3 P2=>?_⟩;obtain⟨t2,k1,k2⟩:=P2.2 0 _ c0;refine⟨r,_,_,_,rfl,rfl, .of X3,av (j:=0) k1,?_⟩;refine⟨_,rfl,t2,_,_,_,rfl,rfl, .of k2,av (j:=0) rfl,_,_,rfl,rfl,_,rfl,t2,_,_,_,rfl,rfl, .of k2,av (j:=1) rfl,_,_,rfl,rfl,aD XN,fun t3 SI=>?_⟩;refine⟨i3+j3,XT,t2,t3,i3,j3,rfl,rfl,s1.trans (s2.trans (ax.upd SI)),ax.upd SI _ _ k2,?_,XT,XT,c4,by rw[c5,SH]⟩;rw[ae];show some (HO.tup [.int (((i3+1:Nat):Int)-1), .int (((j3+1:Nat):Int)-1)])=_;rw[show((i3+1:Nat):Int)-1=(i3:Int) by omega,show((j3+1:Nat):Int)-1=(j3:Int) by omega]
variable(bU:dY P w K mg base true 1 az "goes_on" ["self","pair"] (vB az))
variable(cW:dY P w K mg base true 3 az "pair_before" ["self","pair"] (vC az))
theorem jL:aJ ["self","pair","way"] ["self","pair"] (aq gX):=⟨rfl,rfl,rfl,by decide+kernel,rfl,by decide+kernel,by decide+kernel⟩
include T Rc bU cW in
theorem pV{f:Addr}{fd:FuncData}(F:gT K "way_to" "Trails.way_to" gX f fd):aZ P w K mg base (de P w) true 4 f fd ["self","pair"] (YW az):=by
 refine F.gA jL XO (fun cc A outer s H vs Q E hr h hX=>?_)
 ·obtain⟨x,dx,e,b,es,bs,f,o,p,n,m,pr,i,j,rfl,_⟩:=h;rfl
 ·obtain⟨x,dx,e,b,es,bs,f1,o,p,n,m,pr,i,j,rfl,TR,AK,hi,hj,hn,q⟩:=h;refine⟨_,(XA (Xp (2) jL.nd (@cf _ _ _ _ (Xo (pv 1) ai))) (XA (@rl _ _ _ _ _ _ hX.own (@dI _ _ _ (Xz (pv 0) bU (hr.mono (XU)) aR (Xo (Xs (pv 2) (@l0 _ _ _ _ _ _ jk af)) ai)) (by intro _;rfl)) (XB (@aY _ _ _ _ (Xy K PySem.F.plainAttrs_list PySem.F.slot_list_append PySem.F.type_list_append bK (pv 2) (Xo (Xz (pv 0) cW (hr.mono (XU)) aR (Xo (Xs (pv 2) (@l0 _ _ _ _ _ _ jk af)) ai)) ai)) (XW)))) (XA (@aY _ _ _ _ (@Fv _ K _ _ _ _ _ _ _ _ PySem.F.plainAttrs_list PySem.F.slot_list_reverse PySem.F.type_list_reverse Zi (pv 2) (XW) (XW) (XW)) (XW)) (XB (@aO _ _ _ _ (pv 2)))))),?_⟩;refine⟨_,rfl,aD XN,fun w hw=>?_⟩;refine⟨fun mm σ H1=>∃(us:List V)(A:List (Nat×Nat))(i2 j2:Nat),mm=i2∧σ=[some (.ref x),some (.ref pr),some (.ref w)]∧ax H H1∧H1 w=some (.lst us)∧eG H1 us ((A++[(i2,j2)]).map aN)∧i2<n∧j2<m∧A.length+i2≤i∧dZ f1 o p i i j=dZ f1 o p i2 i2 j2++A.reverse,⟨i,_,[],i,j,rfl,rfl,ax.upd hw,ae,⟨rfl,fun k g hg=>?_⟩,hi,hj,XX,XX⟩,?_⟩
  ·have hk:k=0:=by
    have:=(Xv hg).1;simp at this;omega
   subst hk;have hg:aN (i,j)=g:=by simpa using hg
   subst hg;exact⟨pr,rfl,ax.upd hw _ _ AK⟩
  rintro i2 σ H1 ⟨us,A,_,j2,rfl,rfl,s1,qH,P1,EB,QN,hA,Gd⟩;have T1:=TR.keep s1;obtain⟨t,wH,sq⟩:=P1.last XN;rw[List.map_append,List.map_singleton,mz]at sq;have hlen:us.length≤1001:=by have:=P1.1;simp at this;omega
  refine⟨_,rfl,x,dx,_,rfl,T1.ob,DZ o p e b,_,rfl,_,rfl,w,_,_,_,rfl,rfl, .of qH,wH,x,dx,e,b,es,bs,f1,o,p,n,m,t,i2,j2,rfl,T1,sq,XT,XT,?_⟩;refine⟨_,rfl,?_⟩;refine bj (fun hh=>?_) (fun hh=>?_)
  ·obtain⟨c1,c2,c3⟩:=jE hh;have hl:=(jZ f1 o p i2 j2 c1 c2).resolve_right c3;refine⟨_,fun bA H' z=>z,?_⟩;refine⟨_,rfl, .inl ⟨rfl,_, .of qH⟩,_,rfl,x,dx,_,rfl,T1.ob,JQ o p e b,_,rfl,_,rfl,w,_,_,_,rfl,rfl, .of qH,wH,x,dx,e,b,es,bs,f1,o,p,n,m,t,i2,j2,rfl,T1,sq,XT,XT,c3,fun H2 r s2 hr=>?_⟩;have W9:r≠w:=fun z=>by subst z;rw[s2 _ _ qH]at hr;cases hr
   refine⟨w,_,_,rfl,rfl,s2 _ _ qH,a_ XQ,(cD f1 o p i2 j2).1,hl.1,us++[.ref r],A++[(i2,j2)],_,(cD f1 o p i2 j2).2,rfl,rfl,(s1.trans s2).e6 hw,ae,?_,XT,XT,by simp;omega,?_⟩
   ·rw[List.map_append];refine((P1.same s2).append ⟨rfl,fun k g hg=>?_⟩).cF fun a ys ha=>?_
    ·have hk:k=0:=by
      have:=(Xv hg).1;simp at this;omega
     subst hk;have hg:aN ((cD f1 o p i2 j2).1,(cD f1 o p i2 j2).2)=g:=by simpa using hg
     subst hg;exact⟨r,rfl,hr⟩
    ·have d6:a≠w:=fun z=>by subst z;rw[s2 _ _ qH]at ha;cases ha
     rw[aj d6];exact ha
   ·rw[Gd,uF hh];simp
  ·have hh:¬gh (Bq f1 o p i2 j2)=true:=hh;refine⟨_,rfl, .inl ⟨rfl,_, .of qH⟩,w,us,rfl,rfl,qH,?_⟩;refine⟨_,rfl,q _ w us.reverse (s1.e6 hw) hw ae ?_⟩;have e:dZ f1 o p i i j=(A++[(i2,j2)]).reverse:=by
    rw[Gd,gu hh];simp
   rw[e,List.map_reverse];refine⟨by rw[List.length_reverse,List.length_reverse,P1.1],fun k g hg=>?_⟩;have hk:=(Xv hg).1;rw[List.length_reverse]at hk;have hl:=P1.1;rw[List.getElem?_reverse hk]at hg;obtain⟨t3,k1,k2⟩:=P1.2 _ _ hg;refine⟨t3,by rw[List.getElem?_reverse XQ,hl];exact k1,?_⟩;have d6:t3≠w:=fun z=>by subst z;rw[qH]at k2;cases k2
   rw[aj d6];exact k2
variable(Fc:Hi K aH)
theorem lU:aJ ["self","worth","way","row","pairs"] ["self","worth","way","row","pairs"] (aq fA):=⟨rfl,rfl,rfl,by decide+kernel,rfl,by decide+kernel,by decide+kernel⟩
include T Fc in
theorem lV{f:Addr}{fd:FuncData}(F:gT K "__init__" "Finding.__init__" fA f fd):aZ P w K mg base (de P w) true 1 f fd ["self","worth","way","row","pairs"] (rQ aH):=by
 refine F.gA lU XO (fun cc A outer s H vs Q E hr h hX=>?_)
 ·obtain⟨x,dx,a,r,p,w,rfl,_⟩:=h;rfl
 ·obtain⟨x,dx,a,r,p,w,rfl,hx,q⟩:=h;refine⟨_,(XA (XJ K (pv 0) (pv 1)) (XA (XJ K (pv 0) (pv 2)) (XA (XJ K (pv 0) (pv 3)) (XB (XJ K (pv 0) (pv 4)))))),?_⟩;have a1:=aU "worth" (.int w) [];have a2:=aU "way" (.ref a) (bb "worth" (.int w) []);have a3:=aU "row" (.ref r) (bb "way" (.ref a) (bb "worth" (.int w) []));simp only[List.length_nil]at a1;refine⟨_,rfl,_,rfl,x,aH,dx,_,rfl,hx,Fc.cl,Fc.worth,XU,?_⟩;refine⟨_,rfl,_,rfl,x,aH,dx,_,rfl,ae,Fc.cl,Fc.way,XT,?_⟩;refine⟨_,rfl,_,rfl,x,aH,dx,_,rfl,ae,Fc.cl,Fc.row,XT,?_⟩;refine⟨_,rfl,_,rfl,x,aH,dx,_,rfl,ae,Fc.cl,Fc.pairs,XT,?_⟩;rw[fJ,fJ,fJ,JR];exact q
theorem xJ:aJ ["finding"] ["finding"] (aq mF):=⟨rfl,rfl,rfl,by decide+kernel,rfl,by decide+kernel,by decide+kernel⟩
include T Fc in
theorem xK{f:Addr}{fd:FuncData}(F:jy K "order_of" "order_of" mF f fd):aZ P w K mg base (de P w) true 1 f fd ["finding"] (rR aH):=by
 refine F.gA xJ XO (fun cc A outer s H vs Q E hr h hX=>?_)
 ·obtain⟨x,dx,a,r,p,w,us,ps,rfl,_⟩:=h;rfl
 ·obtain⟨x,dx,a,r,p,w,us,ps,rfl,hx,hp,PS,d6,q⟩:=h;refine⟨_,(XB (@aO _ _ _ _ (@fK _ _ _ _ _ (Xo (@l0 _ _ _ _ _ _ jk (Xx K (pv 0))) (Xo (Xs (Xx K (pv 0)) af) ai))))),?_⟩;obtain⟨t,h1,h2⟩:=PS.first d6;refine⟨_,rfl,x,aH,dx,_,_,rfl,hx,Fc.cl,Fc.worth,rP w a r p,_,rfl,_,rfl,x,aH,dx,_,_,rfl,hx,Fc.cl,Fc.pairs,nQ w a r p,p,_,_,_,rfl,rfl, .of hp,h1,aD XN,fun k hk=>?_⟩;exact q _ k t (ax.upd hk) ae (ax.upd hk _ _ h2)
variable(fq:dY P w K mg base true 4 az "way_to" ["self","pair"] (YW az))
variable(kb:l5 P w K mg base true 1 "Finding" aH ["self","worth","way","row","pairs"] [] (rQ aH))
theorem ft:aJ ["trails","worth","pairs","ends","way","row"] ["trails","worth","pairs"] (aq eL):=⟨rfl,rfl,rfl,by decide+kernel,rfl,by decide+kernel,by decide+kernel⟩
include T Rc fq kb in
theorem qJ{f:Addr}{fd:FuncData}(F:jy K "make_finding" "make_finding" eL f fd):aZ P w K mg base (de P w) true 6 f fd ["trails","worth","pairs"] (Yc az aH):=by
 refine F.gA ft XO (fun cc A outer s H vs Q E hr h hX=>?_)
 ·obtain⟨x,dx,e,b,es,bs,f,o,p,n,m,w,pr,us,ps,q0,rfl,_⟩:=h;rfl
 ·obtain⟨x,dx,e,b,es,bs,f1,o,p,n,m,w,pr,us,ps,q0,rfl,TR,AK,PS,m3,h0,hn,Bw,q⟩:=h;refine⟨_,(XG (@nz _ _ _ _ _ _ _ _ _ _ _ _ _ _ _ (3) _ _ (by exact rfl) ft.nd XS (by exact rfl) (show br ["trails","worth","pairs","ends","way","row"] (aq eL) _ ["pair"] [0,1] ["trails","worth"]from⟨rfl,by decide+kernel,by decide+kernel,by decide+kernel,rfl,rfl,by decide+kernel,by decide+kernel,by decide+kernel⟩) (@bu _ K _ _ _ (pv 2) (XW)) (fun _ _ _ _ _=>(Xr (0) (show(["pair","trails","worth"]:List Str).Nodup by decide+kernel) (Or.inl rfl))) (fun _ _ _ _ _=>(@Z' _ _ _ (@a7 _ _ _ _ _ _ _ _ iD (Xs (Xs (Xx K (pv 1)) (@aB _ _ _ _ _ _ _ (cn K) (pv 0) af (fun _ _=>rfl))) (@aB _ _ _ _ _ _ _ (cn K) (pv 0) af (fun _ _=>rfl))) (pv 2) (aW _)))) (fun _ _ _ _ _=>(pv 0)) (XW) (by intro _;rfl)) (XG (Xp (4) ft.nd (Xz (pv 0) fq (hr.mono (XU)) aR (Xo (Xs (pv 3) af) ai))) (XG (@nz _ _ _ _ _ _ _ _ _ _ _ _ _ _ _ (5) _ _ (by exact rfl) ft.nd XS (by exact rfl) (show br ["trails","worth","pairs","ends","way","row"] (aq eL) _ ["i","j"] [0] ["trails"]from⟨rfl,by decide+kernel,by decide+kernel,by decide+kernel,rfl,rfl,by decide+kernel,by decide+kernel,by decide+kernel⟩) (@bu _ K _ _ _ (pv 4) (XW)) (fun _ _ _ _ _=>(@hJ _ K _ _ _ (2) _ (by exact rfl) (@bF _ _ _ _ _ (Xr (0) (show(["i","j","trails"]:List Str).Nodup by decide+kernel) (Or.inl rfl)) (@bF _ _ _ _ _ (Xr (1) (show(["i","j","trails"]:List Str).Nodup by decide+kernel) (Or.inl rfl)) g9 (XW)) (XW)) (XW) (XW) (XW))) (fun _ _ _ _ _=>hG) (fun _ _ _ _ _=>(Xs (Xs (Xx K (pv 2)) (pv 0)) (pv 1))) (XW) (by intro _;rfl)) (XB (@aO _ _ _ _ (@qW _ _ _ _ _ _ _ _ _ _ _ _ _ _ kb (hr.mono (XU)) hX.pass (Xo (pv 1) (Xo (pv 4) (Xo (pv 5) (Xo (pv 2) ai)))) (XW) (XU) (XW) (XW))))))),?_⟩;have Ge:us.length=ps.length:=by have:=PS.1;simpa using this
  refine⟨fun σ H1=>∃D vs,σ=[some (.ref x),some (.int w),some (.ref pr),some (.ref D),none,none]∧ax H H1∧H1 D=some (.lst vs)∧eG H1 vs ((ps.filter fun q=>decide (dh f1 o p q.1 q.2=some w)).map aN),?_,?_⟩
  ·refine⟨_,rfl,pr,rfl,⟨_, .of AK⟩,fun D hD=>?_⟩;refine iz (xs:=us) (fun k ys bA H'=>(∃u,bA=[u,some (.ref x),some (.int w)])∧eG H ys (((ps.take k).filter fun q=>decide (dh f1 o p q.1 q.2=some w)).map aN)∧H' D=some (.lst ys)∧ax H H'∧ys.length≤k) ⟨⟨_,rfl⟩, .nil,ae,ax.upd hD,XX⟩ ?_ ?_ ?_
   ·rintro k ys bA H' _ ⟨_,_,_,s1,_⟩;exact .of (s1 _ _ AK)
   ·rintro k v ys bA H' hv ⟨⟨u,rfl⟩,P1,qG,s1,kr⟩;have hk:k<ps.length:=by rw[←Ge];exact(Xv hv).1
    have ek:ps[k]?=some ps[k]:=by simp[hk]
    have hm:=m3 ps[k] (List.getElem_mem hk);generalize ps[k]=g at ek hm;obtain⟨t,k1,k2⟩:=PS.2 k (aN g) (by rw[List.getElem?_map,ek];rfl);rw[hv]at k1;cases k1;have T1:=TR.keep s1;have kt:=s1 _ _ k2;obtain⟨rb,g1,g2,g3⟩:=T1.te.at hm.1;have et:ps.take (k+1)=ps.take k++[g]:=by rw[List.take_succ,ek];rfl
    refine⟨_,rfl,x,az,dx,_,_,rfl,T1.ob,Rc.cl,Rc.jY,gO o p e b,_,rfl,t,_,_,_,rfl,rfl, .of kt,av (j:=0) rfl,e,_,_,_,rfl,rfl, .of T1.he,av g2,_,rfl,t,_,_,_,rfl,rfl, .of kt,av (j:=1) rfl,rb,_,_,_,rfl,rfl, .of g3,av (cU hm.2),?_⟩;have Ht:decide (bx (dh f1 o p g.1 g.2)=V.int w)=decide (dh f1 o p g.1 g.2=some w):=by cases dh f1 o p g.1 g.2<;>simp[bx]
    refine⟨_,rfl,by cases dh f1 o p g.1 g.2<;>rfl,_,rfl,?_⟩;rw[Ht];refine bj (fun hh=>?_) (fun hh=>?_)
    ·refine⟨_,rfl,qG,a_ XQ,⟨_,rfl⟩,?_,ae,s1.e6 hD,by simp;omega⟩;rw[et,List.filter_append,List.map_append];refine P1.append ?_;rw[show[g].filter (fun q=>decide (dh f1 o p q.1 q.2=some w))=[g] by rw[List.filter_cons,XH hh];rfl];exact⟨rfl,fun k3 g3 Ol=>by
      have VH:k3=0:=by
       have:=(Xv Ol).1;simp at this;omega
      subst VH;have Ol:aN g=g3:=by simpa using Ol
      subst Ol;exact⟨t,rfl,k2⟩⟩
    ·have hh:decide (dh f1 o p g.1 g.2=some w)=false:=by simpa using hh
     refine⟨⟨_,rfl⟩,?_,qG,s1,XT⟩;rw[et,List.filter_append,show[g].filter (fun q=>decide (dh f1 o p q.1 q.2=some w))=[] by rw[List.filter_cons,hh];rfl,List.append_nil];exact P1
   ·rintro ys bA H' ⟨_,P1,qG,s1,_⟩;rw[Ge,List.take_length]at P1;exact⟨D,ys,rfl,s1,qG,P1.same s1⟩
  rintro σ H1 ⟨D,vs,rfl,s1,qG,P1⟩;obtain⟨t0,k1,k2⟩:=P1.2 0 (aN q0) (by rw[List.getElem?_map,h0];rfl);have Gf:q0.1<n∧q0.2<m:=m3 q0 (List.mem_filter.mp (XF h0)).1;refine⟨fun σ H2=>∃wy jF,σ=[some (.ref x),some (.int w),some (.ref pr),some (.ref D),some (.ref wy),none]∧ax H1 H2∧H1 wy=none∧H2 wy=some (.lst jF)∧eG H2 jF ((dZ f1 o p q0.1 q0.1 q0.2).map aN),?_,?_⟩
  ·have T1:=TR.keep s1;exact⟨_,rfl,x,dx,_,rfl,T1.ob,ME o p e b,_,rfl,D,_,_,_,rfl,rfl, .of qG,av (j:=0) k1,x,dx,e,b,es,bs,f1,o,p,n,m,t0,q0.1,q0.2,rfl,T1,k2,Gf.1,Gf.2,hn,fun H2 wy jF s2 h2 h3 P2=>⟨wy,jF,rfl,s2,h2,h3,P2⟩⟩
  rintro σ H2 ⟨wy,jF,rfl,s2,QO,Ce,P2⟩;have YC:=P2.1;rw[List.length_map]at YC;have LN:(dZ f1 o p q0.1 q0.1 q0.2).length≤1001:=by
   have:=xC (f:=f1) (o:=o) (p:=p) q0.1 q0.1 q0.2;omega
  have M6:=Az (f:=f1) (o:=o) (p:=p) q0.1 q0.1 q0.2 Gf.1 Gf.2;generalize dZ f1 o p q0.1 q0.1 q0.2=W at P2 YC LN M6 q;refine⟨fun σ H3=>∃r,σ=[some (.ref x),some (.int w),some (.ref pr),some (.ref D),some (.ref wy),some (.ref r)]∧ax H2 H3∧H2 r=none∧H3 r=some (.lst (W.map fun q=>bx (dh f1 o p q.1 q.2))),?_,?_⟩
  ·refine⟨_,rfl,wy,rfl,⟨_, .of Ce⟩,fun D2 jI=>?_⟩;refine iz (xs:=jF) (fun k ys bA H'=>(∃u v,bA=[u,v,some (.ref x)])∧ys=(W.take k).map (fun q=>bx (dh f1 o p q.1 q.2))∧H' D2=some (.lst ys)∧ax H2 H') ⟨⟨_,_,rfl⟩,rfl,ae,ax.upd jI⟩ ?_ ?_ ?_
   ·rintro k ys bA H' _ ⟨_,_,_,s3⟩;exact .of (s3 _ _ Ce)
   ·rintro k v ys bA H' hv ⟨⟨u,v2,rfl⟩,rfl,BP,s3⟩;have hk:k<W.length:=by rw[←YC];exact(Xv hv).1
    have ek:W[k]?=some W[k]:=by simp[hk]
    have hm:=M6 W[k] (List.getElem_mem hk);generalize W[k]=g at ek hm;obtain⟨t,k1,k2⟩:=P2.2 k (aN g) (by rw[List.getElem?_map,ek];rfl);rw[hv]at k1;cases k1;have T3:=TR.keep (s1.trans (s2.trans s3));have kt:=s3 _ _ k2;obtain⟨rb,g1,g2,g3⟩:=T3.te.at hm.1;refine⟨t,_,rfl, .of kt,rfl,_,_,rfl,_,_,rfl,rfl,?_⟩;refine u_ ?_;refine⟨_,rfl,x,az,dx,_,_,rfl,T3.ob,Rc.cl,Rc.jY,gO o p e b,_,rfl,e,_,_,_,rfl,rfl, .of T3.he,av g2,_,rfl,rb,_,_,_,rfl,rfl, .of g3,av (cU hm.2),?_⟩;refine⟨BP,a_ (by rw[List.length_map,List.length_take];omega),⟨_,_,rfl⟩,?_,ae,s3.e6 jI⟩;rw[List.take_succ,ek];simp
   ·rintro ys bA H' ⟨_,rfl,BP,s3⟩;rw[YC,List.take_length]at BP;exact⟨D2,rfl,s3,jI,BP⟩
  rintro σ H3 ⟨r,rfl,s3,qI,vM⟩;refine⟨_,rfl,_,rfl,_,rfl,_,rfl,fun y dy hy J4 d6=>?_⟩;have s4:ax H3 (upd (upd H3 dy (.own y)) y (.ins aH dy [])):=(ax.upd J4).e6 hy;refine⟨y,dy,wy,r,pr,w,rfl,ae,?_⟩;refine⟨rfl,?_⟩;rw[fJ];have s5:ax H3 (upd (upd H3 dy (.own y)) y (.ins aH dy (qk w wy r pr))):=(ax.upd J4).e6 hy;have sH:=s1.trans (s2.trans s3);exact q _ y dy wy r jF (sH.trans s5) (sH.free hy) (sH.free J4) (s1.free QO) ((s1.trans s2).free qI) ae (by rw[aj d6];exact ae) (s5 _ _ (s3 _ _ Ce)) (P2.same (s3.trans s5)) (s5 _ _ vM)
variable(Gc:MF K aF)
theorem mL:aJ ["self"] ["self"] (aq fR):=⟨rfl,rfl,rfl,by decide+kernel,rfl,by decide+kernel,by decide+kernel⟩
include T Gc in
theorem mM{f:Addr}{fd:FuncData}(F:gT K "__init__" "Groups.__init__" fR f fd):aZ P w K mg base (de P w) true 1 f fd ["self"] (rS aF):=by
 refine F.gA mL XO (fun cc A outer s H vs Q E hr h hX=>?_)
 ·obtain⟨x,dx,rfl,_⟩:=h;rfl
 ·obtain⟨x,dx,rfl,hx,q⟩:=h;refine⟨_,(XA (XJ K (pv 0) kG) (XB (XJ K (pv 0) kG))),?_⟩;have a1:=aU "leads" (.ref 0) [];simp only[List.length_nil]at a1;refine fun dl Om=>?_
  have n1:x≠dl:=aA hx Om;refine⟨_,rfl,x,aF,dx,_,rfl,by rw[aj n1];exact hx,Gc.cl,Gc.nU,XU,?_⟩;refine fun dm Hu=>?_
  have n2:x≠dm:=fun z=>by rw[z,ae]at Hu;cases Hu
  have Gg:upd H dl (.dT []) dm=none:=by rw[aj (Ne.symm n2)]at Hu;exact Hu
  have n3:dm≠dl:=fun z=>by rw[z,ae]at Gg;cases Gg
  have M7:H dm=none:=by rw[aj n3]at Gg;exact Gg
  refine⟨_,rfl,x,aF,dx,_,rfl,by rw[aj n2,ae],Gc.cl,Gc.members,by have:=aU "leads" (.ref dl) [];simp at this;omega,?_⟩;rw[MI];refine q _ (fun a=>a=dl∨a=dm) ?_ ?_ ?_
  ·exact fun b u hb e=>by
    rw[aj hb,aj (aA e M7),aj hb,aj (aA e Om)];exact e
  ·rintro a (rfl|rfl)
   ·exact Om
   ·exact M7
  ·refine⟨dx,dl,dm,[],[],fun _=>none,fun _=>none,ae,fun z=>z.elim n1 n2,⟨?_,?_, .inl rfl, .inr rfl,Ne.symm n3,fun p=>rfl,fun p=>rfl,fun p q a e=>(by cases e),fun kv h=>(by cases h), .nil,fun l ms e=>(by cases e),fun p l e=>(by cases e),fun l ms e=>(by cases e)⟩,fun a b=>⟨False.elim,fun⟨l,e,_⟩=>(by cases e)⟩,Nat.le_refl _,Nat.le_refl _⟩
   ·rw[aj (Ne.symm n1),aj (Ne.symm n3),aj (Ne.symm n1),ae]
   ·rw[aj (Ne.symm n2),ae]
theorem tG:aJ ["self","pair"] ["self","pair"] (aq hZ):=⟨rfl,rfl,rfl,by decide+kernel,rfl,by decide+kernel,by decide+kernel⟩
include T Gc in
theorem tH{f:Addr}{fd:FuncData}(F:gT K "has" "Groups.has" hZ f fd):aZ P w K mg base (de P w) true 1 f fd ["self","pair"] (Yj aF):=by
 refine F.gA tG XO (fun cc A outer s H vs Q E hr h hX=>?_)
 ·obtain⟨x,t,p,S,E1,B,rfl,_⟩:=h;rfl
 ·obtain⟨x,t,p,S,E1,B,rfl,G,ht,q⟩:=h;have hu:=hr.units;have hu:(A.deeper (PyProof.Rows.envOfC "Groups.has" (aq hZ) s.heap.objs.size f cc)).units+1<cLine:=XT;refine⟨_,(XB (@aO _ _ _ _ (@Yg _ _ _ _ _ _ (@rA _ _ _ _ _ hu (pv 1) (Xx K (pv 0))) (by first|exact bE _ (XU) (XU)|rfl)))),?_⟩;obtain⟨dg,dl,dm,kl,km,ld,mm,hg,Eo,D,hE,Oo,KO⟩:=G;refine⟨_,rfl,_,rfl,x,aF,dg,_,_,rfl,hg,Gc.cl,Gc.nU,i4 dl dm,dl,_,rfl, .t (k:=a8 p) D.hl ht,q _ ?_⟩;rw[hE];have:=D.lv p;cases e:ld p with
  |none=>
   rw[e]at this;have this:bh kl (a8 p)=none:=this;rw[this];simp
  |some l=>
   rw[e]at this;obtain⟨t2,h1,_⟩:=this;rw[h1];simp
theorem nZ:aJ ["self","pair"] ["self","pair"] (aq e7):=⟨rfl,rfl,rfl,by decide+kernel,rfl,by decide+kernel,by decide+kernel⟩
include T Gc in
theorem n5{f:Addr}{fd:FuncData}(F:gT K "take_in" "Groups.take_in" e7 f fd):aZ P w K mg base (de P w) true 1 f fd ["self","pair"] (vD aF):=by
 refine F.gA nZ XO (fun cc A outer s H vs Q E hr h hX=>?_)
 ·obtain⟨x,t,p,S,E1,B,rfl,_⟩:=h;rfl
 ·obtain⟨x,t,p,S,E1,B,rfl,G,ht,hB,q⟩:=h;have hu:=hr.units;have hu:(A.deeper (PyProof.Rows.envOfC "Groups.take_in" (aq e7) s.heap.objs.size f cc)).units+1<cLine:=XT;refine⟨_,(XB (XI (XC (@A_ _ _ _ _ _ hu (pv 1) (Xx K (pv 0)))) (XA (@lz _ _ _ _ _ _ _ _ _ hu (Xx K (pv 0)) (pv 1) (pv 1) (by exact rfl)) (XB (@lz _ _ _ _ _ _ _ _ _ hu (Xx K (pv 0)) (pv 1) (@cf _ _ _ _ (Xo (pv 1) ai)) (by exact rfl)))) aT)),?_⟩;obtain⟨dg,dl,dm,kl,km,ld,mm,hg,Eo,D,hE,Oo,KO⟩:=id G;refine⟨_,rfl,_,rfl,x,aF,dg,_,_,rfl,hg,Gc.cl,Gc.nU,i4 dl dm,dl,_,rfl, .t (k:=a8 p) D.hl ht,_,rfl,?_⟩;have lv:=D.lv p;cases e:ld p with
  |some l=>
   rw[e]at lv;obtain⟨t2,h1,_⟩:=lv;rw[h1];refine jU ?_;refine q H S (.same (.refl H)) (G.iff (fun a b=>?_) (XT));unfold Hj;refine⟨fun z=>z.elim id ?_, .inl⟩;rintro⟨rfl,rfl⟩;rw[hE];exact⟨l,e,e⟩
  |none=>
   rw[e]at lv;have lv:bh kl (a8 p)=none:=lv;rw[lv];refine kI ?_;have nx:x≠dl:=fun z=>Eo (z▸D.sl)
   have Oq:x≠dm:=fun z=>Eo (z▸D.sm)
   have QP:t≠dl:=fun z=>by rw[z,D.hl]at ht;cases ht
   have W_:t≠dm:=fun z=>by rw[z,D.hm]at ht;cases ht
   refine⟨_,rfl,_,rfl,x,aF,dg,_,_,rfl,hg,Gc.cl,Gc.nU,i4 dl dm,_,rfl,dl,_,rfl, .t (k:=a8 p) D.hl ht (a_ XQ),?_⟩;refine⟨_,rfl,aD XN,fun a ha=>?_⟩;have na:a≠dl:=fun z=>by rw[z,ae]at ha;cases ha
   have Cd:H a=none:=by rw[aj na]at ha;exact ha
   have MW:x≠a:=aA hg Cd;have SJ:dm≠a:=aA D.hm Cd;have VI:t≠a:=aA ht Cd;refine⟨_,rfl,x,aF,dg,_,_,rfl,by rw[aj MW,aj nx];exact hg,Gc.cl,Gc.members,iA dl dm,_,rfl,dm,_,rfl, .t (k:=a8 p) (by rw[aj SJ,aj (Ne.symm D.ne)];exact D.hm) (by rw[aj VI,aj QP];exact ht) (a_ XQ),?_⟩;refine q _ (fun y=>S y∨y=a) ⟨fun y hy=>hy.imp id (fun z=>by rw[z];exact Cd),fun b o hb eb=>?_⟩ ?_
   ·rw[aj (fun z:b=dm=>hb (by rw[z];exact D.sm)),aj (aA eb Cd),aj (fun z:b=dl=>hb (by rw[z];exact D.sl))];exact eb
   refine⟨dg,dl,dm,_,_,_,_,by rw[aj Oq,aj MW,aj nx];exact hg,fun z=>z.elim Eo MW,D.take (t:=t) (a:=a) e ht Cd ?_ ae ?_ ?_,fun a1 b1=>?_,?_,?_⟩
   ·rw[aj D.ne,aj (Ne.symm na),ae]
   ·rw[aj (Ne.symm SJ),ae]
   ·intro b o h1 h2 eb;rw[aj h2,aj (aA eb Cd),aj h1];exact eb
   ·unfold Hj;rw[hE];constructor
    ·rintro(⟨l,h1,h2⟩|⟨z1,z2⟩)
     ·exact⟨l,by rw[XE (fun z=>by rw[z,e]at h1;cases h1)];exact h1,by rw[XE (fun z=>by rw[z,e]at h2;cases h2)];exact h2⟩
     ·exact⟨p,by rw[XH z1],by rw[XH z2]⟩
    ·rintro⟨l,h1,h2⟩;by_cases z1:a1=p
     ·by_cases z2:b1=p
      ·exact .inr ⟨z1,z2⟩
      ·rw[XH z1]at h1;rw[XE z2]at h2;cases h1;obtain⟨ms,Cb⟩:=D.ml _ _ h2;have:=D.self _ _ Cb;rw[e]at this;cases this
     ·rw[XE z1]at h1;by_cases z2:b1=p
      ·rw[XH z2]at h2;cases h2;obtain⟨ms,Cb⟩:=D.ml _ _ h1;have:=D.self _ _ Cb;rw[e]at this;cases this
      ·rw[XE z2]at h2;exact .inl ⟨l,h1,h2⟩
   ·exact Nat.le_trans (fE _ _ _) (XT)
   ·exact Nat.le_trans (fE _ _ _) (XT)
theorem cx:aJ ["self","pair","other","lead","gone","moved","member"] ["self","pair","other"] (aq eM):=⟨rfl,rfl,rfl,by decide+kernel,rfl,by decide+kernel,by decide+kernel⟩
include T Gc in
theorem qK{f:Addr}{fd:FuncData}(F:gT K "unite" "Groups.unite" eM f fd):aZ P w K mg base (de P w) true 1 f fd ["self","pair","other"] (rT aF):=by
 refine F.gA cx XO (fun cc A outer s H vs Q E hr h hX=>?_)
 ·obtain⟨x,t,u,p,q,S,E1,B,rfl,_⟩:=h;rfl
 ·obtain⟨x,t,u,p,q,S,E1,B,rfl,G,ht,Oc,hp,hq,hB,qq⟩:=h;have hu:=hr.units;have M8:(A.deeper (PyProof.Rows.envOfC "Groups.unite" (aq eM) s.heap.objs.size f cc)).units<cLine:=XT;have hu:(A.deeper (PyProof.Rows.envOfC "Groups.unite" (aq eM) s.heap.objs.size f cc)).units+1<cLine:=XT;refine⟨_,(XG (Xp (3) cx.nd (@g_ _ _ _ _ _ _ hu (Xx K (pv 0)) (pv 1) (fun _ _=>rfl))) (XG (Xp (4) cx.nd (@g_ _ _ _ _ _ _ hu (Xx K (pv 0)) (pv 2) (fun _ _=>rfl))) (XB (XI (@a7 _ _ _ _ _ _ _ _ (BE K M8) (pv 3) (pv 4) (aW _)) (XG (XI (@a7 _ _ _ _ _ _ _ _ m_ (Xu (aM K) (by exact rfl) T.eF PyProof.Rows.Boot.«len» (Xo (@g_ _ _ _ _ _ _ hu (Xx K (pv 0)) (pv 3) (fun _ _=>rfl)) ai)) (Xu (aM K) (by exact rfl) T.eF PyProof.Rows.Boot.«len» (Xo (@g_ _ _ _ _ _ _ hu (Xx K (pv 0)) (pv 4) (fun _ _=>rfl)) ai)) (aW _)) (XG (Xp (3) cx.nd (@g_ _ _ _ _ _ _ hu (Xx K (pv 0)) (pv 2) (fun _ _=>rfl))) (XB (Xp (4) cx.nd (@g_ _ _ _ _ _ _ hu (Xx K (pv 0)) (pv 1) (fun _ _=>rfl))))) aT) (XG (Xp (5) cx.nd (@Dy _ _ _ _ _ _ _ hu (Xx K (pv 0)) (pv 4) ⟨rfl,rfl,rfl,rfl⟩)) (XG (@bL _ _ _ _ _ _ _ _ hX.own XS (@bu _ K _ _ _ (pv 5) (XW)) (Xr (6) cx.nd (Or.inl rfl)) (XB (@lz _ _ _ _ _ _ _ _ _ hu (Xx K (pv 0)) (pv 6) (pv 3) (by exact rfl))) (by intro _;rfl)) (XB (@aY _ _ _ _ (Xy K PySem.F.plainAttrs_list PySem.F.slot_list_extend PySem.F.type_list_extend uj (@g_ _ _ _ _ _ _ hu (Xx K (pv 0)) (pv 3) (fun _ _=>rfl)) (Xo (pv 5) ai)) (XW)))))) aT)))),?_⟩;obtain⟨dg,dl,dm,kl,km,ld,mm,hg,Eo,D,hE,Oo,KO⟩:=id G;obtain⟨l,Hv,_⟩:=(hE p p).mp hp;obtain⟨g,Hw,_⟩:=(hE q q).mp hq;obtain⟨tl,vl,xE⟩:∃tl,bh kl (a8 p)=some (.ref tl)∧H tl=some (.tup (ju l)):=by have:=D.lv p;rw[Hv]at this;exact this
  obtain⟨tg,vg,KP⟩:∃tg,bh kl (a8 q)=some (.ref tg)∧H tg=some (.tup (ju g)):=by have:=D.lv q;rw[Hw]at this;exact this
  refine⟨fun σ H1=>H1=H∧σ=[some (.ref x),some (.ref t),some (.ref u),some (.ref tl),none,none,none],⟨_,rfl,x,aF,dg,_,_,rfl,hg,Gc.cl,Gc.nU,i4 dl dm,_,rfl,dl,_,rfl,by have:=jx.t (k:=a8 p) D.hl ht;rw[vl]at this;exact this,rfl,rfl⟩,?_⟩;rintro σ H1 ⟨rfl,rfl⟩;refine⟨fun σ H2=>H2=H1∧σ=[some (.ref x),some (.ref t),some (.ref u),some (.ref tl),some (.ref tg),none,none],⟨_,rfl,x,aF,dg,_,_,rfl,hg,Gc.cl,Gc.nU,i4 dl dm,_,rfl,dl,_,rfl,by have:=jx.t (k:=a8 q) D.hl Oc;rw[vg]at this;exact this,rfl,rfl⟩,?_⟩;rintro σ H2 ⟨rfl,rfl⟩;refine⟨_,rfl,_,rfl,tl,tg,_,_,rfl,rfl, .of xE, .of KP,rfl,rfl,_,rfl,?_⟩;rw[Ai];by_cases AE:l=g
  ·rw[decide_eq_true AE];refine jU ?_;refine qq _ (.same (.refl _)) (G.iff (fun a b=>?_) (Nat.le_refl _));subst AE;unfold pQ;rw[hE,hE,hE,hE,hE,Hv,Hw];constructor
   ·rintro(z|⟨z1,z2⟩)
    ·exact z
    ·have y1:ld a=some l:=by rcases z1 with⟨y,h1,h2⟩|⟨y,h1,h2⟩<;>(cases h2;exact h1)
     have y2:ld b=some l:=by rcases z2 with⟨y,h1,h2⟩|⟨y,h1,h2⟩<;>(cases h2;exact h1)
     exact⟨l,y1,y2⟩
   ·exact .inl
  rw[decide_eq_false AE];refine kI ?_;obtain⟨m1,AL⟩:=D.ml p l Hv;obtain⟨m2,EI⟩:=D.ml q g Hw;obtain⟨al,rg,M9,AF,P1,_⟩:∃a us,bh km (a8 l)=some (.ref a)∧H2 a=some (.lst us)∧eG H2 us m1∧S a:=by have:=D.mv l;rw[AL]at this;exact this
  obtain⟨ag,jF,Ot,Gh,P2,_⟩:∃a us,bh km (a8 g)=some (.ref a)∧H2 a=some (.lst us)∧eG H2 us m2∧S a:=by have:=D.mv g;rw[EI]at this;exact this
  have gl:∀{tt:Addr}{r:Pr},H2 tt=some (.tup (ju r))→jx H2 dm (.ref tt) (bh km (a8 r)):=fun h=>jx.t (k:=a8 _) D.hm h
  have SK:∀{tt:Addr}{r:Pr},H2 tt=some (.tup (ju r))→jx H2 dl (.ref tt) (bh kl (a8 r)):=fun h=>jx.t (k:=a8 _) D.hl h
  refine⟨fun σ H3=>H3=H2∧∃l g tl tg p' q',σ=[some (.ref x),some (.ref t),some (.ref u),some (.ref tl),some (.ref tg),none,none]∧l≠g∧H2 tl=some (.tup (ju l))∧H2 tg=some (.tup (ju g))∧ld p'=some l∧ld q'=some g∧∀a b,pQ E1 p q a b↔pQ E1 p' q' a b,?_,?_⟩
  ·refine⟨_,rfl,x,aF,dg,_,_,rfl,hg,Gc.cl,Gc.members,iA dl dm,_,rfl,dm,_,rfl,by have:=gl xE;rw[M9]at this;exact this,al,_,rfl, .inl (.of AF),?_⟩;refine⟨_,rfl,x,aF,dg,_,_,rfl,hg,Gc.cl,Gc.members,iA dl dm,_,rfl,dm,_,rfl,by have:=gl KP;rw[Ot]at this;exact this,ag,_,rfl, .inl (.of Gh),?_⟩;refine⟨_,_,rfl,rfl,_,rfl,?_⟩;refine bj (fun _=>?_) (fun _=>?_)
   ·refine⟨fun σ H3=>H3=H2∧σ=[some (.ref x),some (.ref t),some (.ref u),some (.ref tg),some (.ref tg),none,none],⟨_,rfl,x,aF,dg,_,_,rfl,hg,Gc.cl,Gc.nU,i4 dl dm,_,rfl,dl,_,rfl,by have:=SK Oc;rw[vg]at this;exact this,rfl,rfl⟩,?_⟩;rintro σ H3 ⟨rfl,rfl⟩;refine⟨_,rfl,x,aF,dg,_,_,rfl,hg,Gc.cl,Gc.nU,i4 dl dm,_,rfl,dl,_,rfl,by have:=SK ht;rw[vl]at this;exact this,rfl,g,l,tg,tl,q,p,rfl,Ne.symm AE,KP,xE,Hw,Hv,fun a b=>BF⟩
   ·exact⟨rfl,l,g,tl,tg,p,q,rfl,AE,xE,KP,Hv,Hw,fun a b=>Iff.rfl⟩
  rintro σ H3 ⟨rfl,l,g,tl,tg,p',q',rfl,AE,xE,KP,Hv,Hw,VJ⟩;obtain⟨m1,AL⟩:=D.ml p' l Hv;obtain⟨m2,EI⟩:=D.ml q' g Hw;obtain⟨al,rg,M9,AF,P1,SM⟩:∃a us,bh km (a8 l)=some (.ref a)∧H3 a=some (.lst us)∧eG H3 us m1∧S a:=by have:=D.mv l;rw[AL]at this;exact this
  obtain⟨ag,jF,Ot,Gh,P2,W'⟩:∃a us,bh km (a8 g)=some (.ref a)∧H3 a=some (.lst us)∧eG H3 us m2∧S a:=by have:=D.mv g;rw[EI]at this;exact this
  have Xa:al≠ag:=fun z=>AE (D.inj l g al M9 (by rw[Ot,z]))
  have l1:=D.XY (D.ms l m1 AL).1 (fun r hr=>⟨l,((D.ms l m1 AL).2 r).mp hr⟩);have l2:=D.XY (D.ms g m2 EI).1 (fun r hr=>⟨g,((D.ms g m2 EI).2 r).mp hr⟩);have nx:x≠dl:=fun z=>Eo (by rw[z];exact D.sl)
  have Oq:x≠dm:=fun z=>Eo (by rw[z];exact D.sm)
  have M_:al≠dl:=fun z=>by rw[z,D.hl]at AF;cases AF
  have Na:al≠dm:=fun z=>by rw[z,D.hm]at AF;cases AF
  have Nb:ag≠dl:=fun z=>by rw[z,D.hl]at Gh;cases Gh
  have J5:ag≠dm:=fun z=>by rw[z,D.hm]at Gh;cases Gh
  have YC:=P2.1;refine⟨fun σ H4=>H4=upd H3 dm (.dT (iE km (a8 g)))∧σ=[some (.ref x),some (.ref t),some (.ref u),some (.ref tl),some (.ref tg),some (.ref ag),none],?_,?_⟩
  ·exact⟨_,rfl,x,aF,dg,_,_,rfl,hg,Gc.cl,Gc.members,iA dl dm,dm,rfl, .inr ⟨km, .of D.hm⟩,_,rfl,dm,tg,km,a8 g,_,rfl,rfl,D.hm,KP,Ot,rfl,rfl⟩
  rintro σ H4 ⟨rfl,rfl⟩;refine⟨fun σ H5=>(∃w,σ=[some (.ref x),some (.ref t),some (.ref u),some (.ref tl),some (.ref tg),some (.ref ag),w])∧∃tw,H5 dl=some (.dT tw)∧tw.length≤B∧(∀r,bh tw (a8 r)=if r∈m2 then some (.ref tl)else bh kl (a8 r))∧SameBut dl (upd H3 dm (.dT (iE km (a8 g)))) H5,?_,?_⟩
  ·refine⟨_,rfl,ag,rfl,⟨_, .of (by rw[aj J5];exact Gh)⟩,?_⟩;refine cG (xs:=jF) (fun i σ H5=>(∃w,σ=[some (.ref x),some (.ref t),some (.ref u),some (.ref tl),some (.ref tg),some (.ref ag),w])∧∃tw,H5 dl=some (.dT tw)∧tw.length≤B∧(∀r,bh tw (a8 r)=if r∈m2.take i then some (.ref tl)else bh kl (a8 r))∧SameBut dl (upd H3 dm (.dT (iE km (a8 g)))) H5) ?_ ?_ ?_ ?_
   ·exact⟨⟨_,rfl⟩,kl,by rw[aj D.ne];exact D.hl,Oo,fun r=>XX, .refl⟩
   ·rintro i σ H5 _ ⟨_,tw,_,_,_,s5⟩;exact .of (s5 _ _ Nb (by rw[aj J5];exact Gh))
   ·rintro i v σ H5 hv ⟨⟨w,rfl⟩,tw,h5,KR,J6,s5⟩;have hi:i<m2.length:=by rw[←YC];exact(Xv hv).1
    have ei:m2[i]?=some m2[i]:=by simp[hi]
    have iJ:m2[i]∈m2:=List.getElem_mem hi;generalize m2[i]=r0 at ei iJ;obtain⟨tr,k1,k2⟩:=P2.2 i r0 ei;rw[hv]at k1;cases k1;have SF:tr≠dl:=fun z=>by rw[z,D.hl]at k2;cases k2
    have QR:tr≠dm:=fun z=>by rw[z,D.hm]at k2;cases k2
    have k5:=s5 tr _ SF (by rw[aj QR];exact k2);have g5:=s5 x _ nx (by rw[aj Oq];exact hg);refine⟨_,rfl,_,rfl,x,aF,dg,_,_,rfl,g5,Gc.cl,Gc.nU,i4 dl dm,_,rfl,dl,_,rfl, .t (k:=a8 r0) h5 k5 (a_ XQ),⟨_,rfl⟩,_,ae,?_,fun r=>?_,s5.upd⟩
    ·have m3:bh tw (a8 r0)≠none:=by
      rw[J6];split
      ·simp
      ·have:=D.lv r0;rw[((D.ms g m2 EI).2 r0).mp iJ]at this;obtain⟨t0,z,_⟩:=this;rw[z];simp
     have:(putK tw (a8 r0) (.ref tl)).length=tw.length:=by
      unfold putK;rw[gM,XH (by cases z:bh tw (a8 r0)<;>simp_all),List.length_map]
     omega
    ·rw[jv,J6];have et:m2.take (i+1)=m2.take i++[r0]:=by rw[List.take_succ,ei];rfl
     rw[et];by_cases e:r=r0
     ·rw[XH (by rw[e]),XH (by simp[e])]
     ·rw[XE (fun z=>e (dB z))];by_cases e2:r∈m2.take i
      ·rw[XH e2,XH (by simp[e2])]
      ·rw[XE e2,XE (by simp[e,e2])]
   ·rintro σ H5 ⟨⟨w,rfl⟩,tw,h5,KR,J6,s5⟩;rw[YC,List.take_length]at J6;exact⟨⟨_,rfl⟩,tw,h5,KR,J6,s5⟩
  rintro σ H5 ⟨⟨w,rfl⟩,tw,h5,KR,J6,s5⟩;have QP:tl≠dl:=fun z=>by rw[z,D.hl]at xE;cases xE
  have QS:tl≠dm:=fun z=>by rw[z,D.hm]at xE;cases xE
  have g5:=s5 x _ nx (by rw[aj Oq];exact hg);have m5:=s5 dm _ (Ne.symm D.ne) ae;have SN:=s5 al _ M_ (by rw[aj Na];exact AF);have VL:=s5 ag _ Nb (by rw[aj J5];exact Gh);have VM:=s5 tl _ QP (by rw[aj QS];exact xE);have vd:bh (iE km (a8 g)) (a8 l)=some (.ref al):=by rw[lF,XE (fun z=>AE (dB z))];exact M9
  refine⟨_,rfl,x,aF,dg,_,_,rfl,g5,Gc.cl,Gc.members,iA dl dm,_,rfl,dm, .ref al,rfl,by have:=jx.t (k:=a8 l) m5 VM;rw[vd]at this;exact this, .inl ⟨rfl,_, .of SN⟩,_,rfl,al,ag,rg,jF,rfl,rfl,SN,VL,?_,?_⟩
  ·have:=P1.1;exact aD XQ
  have VN:x≠al:=fun z=>Eo (by rw[z];exact SM)
  have Hx:∀b o,¬S b→H3 b=some o→upd H5 al (.lst (rg++jF)) b=some o:=fun b o hb eb=>by
   rw[aj (fun z=>hb (by rw[z];exact SM))];exact s5 b o (fun z=>hb (by rw[z];exact D.sl)) (by rw[aj (fun z=>hb (by rw[z];exact D.sm))];exact eb)
  refine qq _ ⟨fun _ h=> .inl h,Hx⟩ ?_;refine⟨dg,dl,dm,tw,iE km (a8 g),_,_,Hx x _ Eo hg,Eo,D.MN (tl:=tl) AE AL EI M9 P1 P2 AF xE J6 (by rw[aj (Ne.symm M_)];exact h5) (by rw[aj (Ne.symm Na)];exact m5) ae ?_,fun a b=>(VJ a b).trans (JU AE Hv Hw (D.ms g m2 EI).2 hE a b),KR,Nat.le_trans (w6 _ _) KO⟩;intro b o h1 h2 h3 eb;rw[aj h3];exact s5 b o h1 (by rw[aj h2];exact eb)
variable(iQ:mg "sorted"=none)
theorem sr:aJ ["self"] ["self"] (aq gE):=⟨rfl,rfl,rfl,by decide+kernel,rfl,by decide+kernel,by decide+kernel⟩
include T Gc iQ in
theorem su{f:Addr}{fd:FuncData}(F:gT K "told" "Groups.told" gE f fd):aZ P w K mg base (de P w) true 1 f fd ["self"] (vE aF):=by
 refine F.gA sr XO (fun cc A outer s H vs Q E hr h hX=>?_)
 ·obtain⟨x,S,E1,B,rfl,_⟩:=h;rfl
 ·obtain⟨x,S,E1,B,rfl,G,hB,q⟩:=h;refine⟨_,(XB (@aO _ _ _ _ (@lB _ _ _ _ _ _ _ _ _ _ _ _ _ _ (by exact rfl) (show br ["self"] (aq gE) _ ["members"] [] []from⟨rfl,by decide+kernel,by decide+kernel,by decide+kernel,rfl,rfl,by decide+kernel,by decide+kernel,by decide+kernel⟩) (@FH _ H _ _ _ _ _ (Xx K (pv 0)) (XW) (XW) (XW)) (fun _ _ _ _ _=>(Xr (0) (show(["members"]:List Str).Nodup by decide+kernel) (Or.inl rfl))) (fun _ _ _ _ _=>hG) (fun _ _ _ _ _=>(Xu (Za K) (by exact rfl) iQ PyProof.Rows.Boot.«sorted» (Xo (pv 0) ai))) (by intro _;rfl)))),?_⟩;obtain⟨dg,dl,dm,kl,km,ld,mm,hg,Eo,D,hE,Oo,KO⟩:=G;refine⟨_,rfl,x,aF,dg,_,_,rfl,hg,Gc.cl,Gc.members,iA dl dm,dm,km,rfl,D.hm,fun o nf R hR=>?_⟩;have nR:R≠dm:=fun z=>by rw[z,ae]at hR;cases hR
  have QT:H R=none:=by rw[aj nR]at hR;exact hR
  refine BC (fun k ys bA H'=>(∃u,bA=[u])∧(∃gs,fN H' ys gs∧gs.length=k∧∀(i:Nat) ps,gs[i]?=some ps→∃l ms v,km[i]?=some (a8 l,v)∧mm l=some ms∧ps.Perm ms∧ps.Pairwise fun p q=>jD p q=true)∧H' R=some (.lst ys)∧(∀b o,b≠dm→H b=some o→H' b=some o)∧H' dm=some (.qS o (.dT km))∧∀(i:Nat) a,ys[i]?=some (.ref a)→H a=none∧a≠R) ⟨⟨_,rfl⟩,⟨[], .nil,rfl,fun i ps e=>by simp at e⟩,ae,fun b o hb e=>by rw[aj (aA e QT),aj hb];exact e,by rw[aj (Ne.symm nR),ae],fun i a e=>by simp at e⟩ ?_ ?_ ?_
  ·rintro k ys bA H' _ ⟨_,_,_,_,h4,_⟩;exact h4
  ·rintro k ⟨key,v⟩ ys bA H' hk ⟨⟨u,rfl⟩,⟨gs,W1,hl,KS⟩,Nc,KU,Hu,Bb⟩;obtain⟨l,el⟩:=D.key _ (XF hk);have el:key=a8 l:=el;subst el;have vv:=AD D.AB hk;have mv:=D.mv l;cases e:mm l with
   |none=>
    rw[e]at mv;have mv:bh km (a8 l)=none:=mv;rw[mv]at vv;cases vv
   |some ms=>
    rw[e]at mv;obtain⟨a,us,z1,z2,z3,z4⟩:=mv;rw[vv]at z1;cases z1;obtain⟨nd,Cb⟩:=D.ms l ms e;have QU:a≠dm:=fun z=>by rw[z,D.hm]at z2;cases z2
    have T:fg H H':=fun b v hb=>KU b _ (fun z=>by rw[z,D.hm]at hb;cases hb) hb
    refine pA ?_;refine⟨_,rfl,a,us,ms,rfl, .of (KU _ _ QU z2),z3.cF T,nd,by have:=D.XY nd (fun p hp=>⟨l,(Cb p).mp hp⟩);omega,fun D2 SO qs jI P2 perm pw=>?_⟩;have Ou:D2≠R:=fun z=>by rw[z,Nc]at jI;cases jI
    have SQ:D2≠dm:=fun z=>by rw[z,Hu]at jI;cases jI
    have Nd:H D2=none:=by
     cases z:H D2 with
     |none=>rfl
     |some o2=>rw[KU D2 o2 SQ z]at jI;cases jI
    have SR:=W1.1;have Sg:k<km.length:=(Xv hk).1;refine⟨by rw[aj (Ne.symm Ou)];exact Nc,a_ XQ,⟨_,rfl⟩,⟨gs++[qs],?_,by simp;omega,fun i ps hi=>?_⟩,ae,fun b o hb eb=>?_,?_,fun i a ha=>?_⟩
    ·have W2:fN (upd H' D2 (.lst SO)) ys gs:=W1.same (ax.upd jI);have W3:fN (upd H' D2 (.lst SO)) (ys++[.ref D2]) (gs++[qs]):=W2.append (.one ae (P2.same (ax.upd jI)));refine W3.put (fun i e=>?_) (by rw[aj (Ne.symm Ou)];exact Nc);by_cases hi:i<ys.length
     ·rw[List.getElem?_append_left hi]at e;exact(Bb i R e).2 rfl
     ·have:=(Xv e).1;have:i=ys.length:=by simp at this;omega
      subst this;simp at e;exact Ou e
    ·by_cases EB:i<gs.length
     ·rw[List.getElem?_append_left EB]at hi;exact KS i ps hi
     ·have:=(Xv hi).1;have:i=gs.length:=by simp at this;omega
      subst this;simp at hi;subst hi;exact⟨l,ms,_,by rw[hl];exact hk,e,perm,pw⟩
    ·rw[aj (aA eb QT),aj (aA eb Nd)];exact KU b o hb eb
    ·rw[aj (Ne.symm nR),aj (Ne.symm SQ)];exact Hu
    ·by_cases hi:i<ys.length
     ·rw[List.getElem?_append_left hi]at ha;exact Bb i a ha
     ·have:=(Xv ha).1;have:i=ys.length:=by simp at this;omega
      subst this;simp at ha;subst ha;exact⟨Nd,Ou⟩
  ·rintro ys bA H' ⟨_,⟨gs,W1,hl,KS⟩,Nc,KU,Hu,Bb⟩;refine q _ R ys gs ⟨fun a h=> .inl h,fun b o hb eb=>KU b o (fun z=>hb (by rw[z];exact D.sm)) eb⟩ QT Nc W1 (fun k a h=>(Bb k a h).1) ?_;have at_:∀ps∈gs,∃l ms,mm l=some ms∧ps.Perm ms∧ps.Pairwise (fun p q=>jD p q=true):=fun ps Bw=>by
    obtain⟨i,hi⟩:=List.getElem?_of_mem Bw;obtain⟨l,ms,v,_,h2,h3,h4⟩:=KS i ps hi;exact⟨l,ms,h2,h3,h4⟩
   refine⟨fun ps Bw=>?_,fun ps Bw=>?_,fun ps Bw a ha b=>?_,fun a ha=>?_,?_⟩
   ·obtain⟨_,_,_,_,h4⟩:=at_ ps Bw
    exact h4
   ·obtain⟨l,ms,h2,h3,_⟩:=at_ ps Bw
    intro z;subst z;have:l∈ms:=((D.ms l ms h2).2 l).mpr (D.self l ms h2);have:=h3.mem_iff.mpr this;cases this
   ·obtain⟨l,ms,h2,h3,_⟩:=at_ ps Bw
    have ha:=((D.ms l ms h2).2 a).mp (h3.mem_iff.mp ha);rw[h3.mem_iff,(D.ms l ms h2).2,hE,ha];exact⟨fun z=>⟨l,rfl,z⟩,fun⟨y,h,z⟩=>by cases h;exact z⟩
   ·obtain⟨l,h1,_⟩:=(hE a a).mp ha;obtain⟨ms,Cb⟩:=D.ml a l h1;have mv:=D.mv l;rw[Cb]at mv;obtain⟨aa,us,z1,_⟩:=mv;obtain⟨i,hi⟩:=xD z1;have gK:i<gs.length:=by rw[hl];exact(Xv hi).1
    obtain⟨l2,VO,v,h5,h6,h7,_⟩:=KS i gs[i] (by simp[gK]);rw[hi]at h5;have:l=l2:=dB (Prod.mk.inj (XM h5)).1;subst this;refine⟨gs[i],List.getElem_mem gK,h7.mem_iff.mpr ?_⟩;exact((D.ms l VO h6).2 a).mpr h1
   ·rw[List.pairwise_iff_getElem];intro i j hi hj sX a ha hb;obtain⟨l1,m1,v1,a1,a2,a3,_⟩:=KS i gs[i] (by simp[hi]);obtain⟨l2,m2,v2,b1,b2,b3,_⟩:=KS j gs[j] (by simp[hj]);have ha:=((D.ms l1 m1 a2).2 a).mp (a3.mem_iff.mp ha);have hb:=((D.ms l2 m2 b2).2 a).mp (b3.mem_iff.mp hb);rw[ha]at hb;cases hb;have nd:=D.AB;have h1:(km.map (·.1))[i]?=some (a8 l1):=by rw[List.getElem?_map,a1];rfl
    have h2:(km.map (·.1))[j]?=some (a8 l1):=by rw[List.getElem?_map,b1];rfl
    have:=(List.getElem?_inj (Xv h1).1 nd).mp (h1.trans h2.symm);omega
variable(lM:l5 P w K mg base true 1 "Groups" aF ["self"] [] (rS aF))
variable(Hc:Hm K ay)
theorem kC:aJ ["self","trails","worth"] ["self","trails","worth"] (aq eO):=⟨rfl,rfl,rfl,by decide+kernel,rfl,by decide+kernel,by decide+kernel⟩
include T lM Hc in
theorem kD{f:Addr}{fd:FuncData}(F:gT K "__init__" "Gathering.__init__" eO f fd):aZ P w K mg base (de P w) true 3 f fd ["self","trails","worth"] (pR ay aF):=by
 refine F.gA kC XO (fun cc A outer s H vs Q E hr h hX=>?_)
 ·obtain⟨x,dx,tr,W,rfl,_⟩:=h;rfl
 ·obtain⟨x,dx,tr,W,rfl,hx,q⟩:=h;refine⟨_,(XA (XJ K (pv 0) (pv 1)) (XA (XJ K (pv 0) (pv 2)) (XA (XJ K (pv 0) (@DY _ _ _ _ _ _ _ _ _ _ _ lM (hr.mono (XU)) hX.pass (XW) (XU))) (XB (XJ K (pv 0) kG))))),?_⟩;refine⟨_,rfl,_,rfl,x,ay,dx,_,rfl,hx,Hc.cl,Hc.rW,XU,?_⟩;refine⟨_,rfl,_,rfl,x,ay,dx,_,rfl,ae,Hc.cl,Hc.worth,by have:=aU "trails" (.ref tr) [];simp at this;omega,?_⟩;rw[fJ];refine fun g dg hg Ov d6=>?_
  have Nf:x≠g:=fun z=>by rw[←z,ae]at hg;cases hg
  have QV:x≠dg:=fun z=>by rw[←z,ae]at Ov;cases Ov
  have Ng:H g=none:=by rw[aj (Ne.symm Nf)]at hg;exact hg
  have Nh:H dg=none:=by rw[aj (Ne.symm QV)]at Ov;exact Ov
  refine⟨g,dg,rfl,ae,fun H1 S1 wI QW G1=>⟨rfl,?_⟩⟩;have keep:∀b o,b≠x→H b=some o→H1 b=some o:=fun b o hb e=>wI b o (aA e Ng) (by rw[aj (aA e Ng),aj (aA e Nh),aj hb];exact e)
  have kP:H1 x=some (.ins ay dx (bb "worth" (.int W) (bb "trails" (.ref tr) []))):=wI x _ Nf (by rw[aj Nf,aj QV];exact ae);have l2:(bb "worth" (.int W) (bb "trails" (.ref tr) [])).length≤2:=by
   have:=aU "trails" (.ref tr) [];have:=aU "worth" (.int W) (bb "trails" (.ref tr) []);simp at*;omega
  refine⟨_,rfl,x,ay,dx,_,rfl,kP,Hc.cl,Hc.groups,XT,?_⟩;refine fun dk Ow=>?_
  have KW:x≠dk:=fun z=>by rw[←z,ae]at Ow;cases Ow
  have Ep:H1 dk=none:=by rw[aj (Ne.symm KW)]at Ow;exact Ow
  have QX:H dk=none:=by
   cases e:H dk with
   |none=>rfl
   |some o=>rw[keep dk o (Ne.symm KW) e]at Ep;cases Ep
  refine⟨_,rfl,x,ay,dx,_,rfl,by rw[aj KW];exact ae,Hc.cl,Hc.marks,by have:=aU "groups" (.ref g) (bb "worth" (.int W) (bb "trails" (.ref tr) []));omega,?_⟩;rw[JY];have Ox:¬S1 x:=fun z=>by
   have:=QW x z;rw[aj Nf,aj QV,ae]at this;cases this
  have VP:¬S1 g:=fun z=>by
   have:=QW g z;rw[ae]at this;cases this
  have G2:=G1.nt;have fin:∀b o,b≠x→H1 b=some o→upd (upd (upd H1 x (.ins ay dx (bb "groups" (.ref g) (bb "worth" (.int W) (bb "trails" (.ref tr) []))))) dk (.dT [])) x (.ins ay dx (jn tr W g dk)) b=some o:=fun b o hb e=>by
   rw[aj hb,aj (aA e Ep),aj hb];exact e
  have QY:¬(S1 dk∧NT H1 dk):=fun z=>by
   obtain⟨o,e,_⟩:=z.2;rw[Ep]at e;cases e
  refine q _ (fun a=>(S1 a∧NT H1 a)∨a=dk) (fun b o hb e=>fin b o hb (keep b o hb e)) (fun a ha=>?_) ⟨dx,g,dk,[],fun a=>S1 a∧NT H1 a,ae,G2.keep (fun a o hs e=>fin a o (fun z=>Ox (by rw[←z];exact hs.1)) e) (fun b v hb=>fin b _ (fun z=>by rw[z,kP]at hb;cases hb) hb) (fun o e=>fin g o (Ne.symm Nf) e),by rw[aj (Ne.symm KW),ae],fun c=>rfl,Nat.le_refl _,fun a=>Iff.rfl,QY,fun z=>z.elim (fun y=>Ox y.1) KW,fun z=>z.elim (fun y=>VP y.1) (fun y=>?_),fun a ha=>?_⟩
  ·rcases ha with ha|ha
   ·have:=QW a ha.1;cases e:H a with
    |none=>rfl
    |some o=>rw[aj (aA e Ng),aj (aA e Nh),aj (fun z=>Ox (by rw[←z];exact ha.1)),e]at this;cases this
   ·rw[ha];exact QX
  ·obtain⟨Xb,dl,dm,kl,F1,ld,mm,og,_⟩:=G1;rw[y,Ep]at og;cases og
  ·rcases ha with⟨h1,o,h2,h3⟩|ha
   ·exact⟨o,fin a o (fun z=>Ox (by rw[←z];exact h1)) h2,h3⟩
   ·exact⟨_,by rw[ha,aj (Ne.symm KW),ae],fun v=>(XX)⟩
variable(cI:dY P w K mg base true 1 aF "unite" ["self","pair","other"] (rT aF))
theorem n6:aJ ["self","crossing","pair"] ["self","crossing","pair"] (aq e8):=⟨rfl,rfl,rfl,by decide+kernel,rfl,by decide+kernel,by decide+kernel⟩
include T Hc cI in
theorem n8{f:Addr}{fd:FuncData}(F:gT K "mark" "Gathering.mark" e8 f fd):aZ P w K mg base (de P w) true 2 f fd ["self","crossing","pair"] (rX ay aF):=by
 refine F.gA n6 XO (fun cc A outer s H vs Q E hr h hX=>?_)
 ·obtain⟨x,tc,tp,tr,W,c,r,S,s1,B,M,rfl,_⟩:=h;rfl
 ·obtain⟨x,tc,tp,tr,W,c,r,S,s1,B,M,rfl,G,hc,hp,JV,h0,hB,hM,q⟩:=h;have hu:=hr.units;have hu:(A.deeper (PyProof.Rows.envOfC "Gathering.mark" (aq e8) s.heap.objs.size f cc)).units+1<cLine:=XT;refine⟨_,(XB (XI (XC (@rA _ _ _ _ _ hu (pv 1) (Xx K (pv 0)))) (XB (@aY _ _ _ _ (Xz (Xx K (pv 0)) cI (hr.mono (XU)) aR (Xo (@g_ _ _ _ _ _ _ hu (Xx K (pv 0)) (pv 1) (fun _ _=>rfl)) (Xo (pv 2) ai))) (XW))) (XB (@lz _ _ _ _ _ _ _ _ _ hu (Xx K (pv 0)) (pv 1) (pv 2) (by exact rfl))))),?_⟩;obtain⟨dx,g,dk,km,S1,D⟩:=id G;refine⟨_,rfl,_,rfl,x,ay,dx,_,_,rfl,D.ob,Hc.cl,Hc.marks,kQ tr W g dk,dk,_,rfl, .t (k:=a8 c) D.hk hc,_,rfl,?_⟩;have mv:=D.mv c;cases e:s1.2 c with
  |none=>
   rw[e]at mv;have mv:bh km (a8 c)=none:=mv;rw[mv];refine jU ?_;have hl:=D.len;refine⟨_,rfl,_,rfl,x,ay,dx,_,_,rfl,D.ob,Hc.cl,Hc.marks,kQ tr W g dk,_,rfl,dk,_,rfl, .t (k:=a8 c) D.hk hc (a_ XQ),?_⟩;obtain⟨u,D'⟩:=D.put (c:=c) hp;refine q _ S u ⟨dx,g,dk,putK km (a8 c) (.ref tp),S1,?_⟩;unfold xF;rw[e];exact D'
  |some r0=>
   rw[e]at mv;obtain⟨t0,v0,VQ⟩:=mv;rw[v0];refine kI ?_;obtain⟨dg,dl,dm,kl,F1,ld,mm,og,_⟩:=id D.gr;refine⟨_,rfl,x,ay,dx,_,_,rfl,D.ob,Hc.cl,Hc.groups,iB tr W g dk,g,dg,_,rfl,og,AA dl dm,_,rfl,x,ay,dx,_,_,rfl,D.ob,Hc.cl,Hc.marks,kQ tr W g dk,_,rfl,dk,_,rfl,by have:=jx.t (k:=a8 c) D.hk hc;rw[v0]at this;exact this,_,rfl,g,t0,tp,r0,r,S1,s1.1,B,rfl,D.gr,VQ,hp,h0 r0 e,JV,hB,fun H' u G'=>?_⟩;obtain⟨S',S2,u2,D2⟩:=D.Od u G';refine q _ S' u2 ⟨dx,g,dk,km,S2,?_⟩;unfold xF;rw[e];exact⟨D2.ob,D2.gr,D2.hk,D2.mv,by have:=D2.len;omega,D2.sS,D2.AB,D2.nx,D2.ng,D2.nt⟩
variable(bV:dY P w K mg base true 1 aF "take_in" ["self","pair"] (vD aF))
variable(bW:dY P w K mg base true 2 ay "mark" ["self","crossing","pair"] (rX ay aF))
theorem eR:aJ ["self","crossing","pair","later","before"] ["self","crossing","pair"] (aq du):=⟨rfl,rfl,rfl,by decide+kernel,rfl,by decide+kernel,by decide+kernel⟩
include T a9 aV Hc cI bV bW in
theorem kZ{f:Addr}{fd:FuncData}(F:gT K "go_over" "Gathering.go_over" du f fd):aZ P w K mg base (de P w) true 3 f fd ["self","crossing","pair"] (rY ay aF az):=by
 refine F.gA eR XO (fun cc A outer s H vs Q E hr h hX=>?_)
 ·obtain⟨x,tc,tp,tr,dt,e,b,es,bs,f,o,p,n,m,W,i,j,r,S,s1,B,M,H0,rfl,_⟩:=h;rfl
 ·obtain⟨x,tc,tp,tr,dt,e,b,es,bs,f1,o,p,n,m,W,i,j,r,S,s1,B,M,H0,rfl,G,TR,BA,hc,hp,hi,hj,TP,OK,hs,hB,hM,q⟩:=h;have hu:=hr.units;have hu:(A.deeper (PyProof.Rows.envOfC "Gathering.go_over" (aq du) s.heap.objs.size f cc)).units+1<cLine:=XT;refine⟨_,(XG (Xp (3) eR.nd (@g_ _ _ _ _ _ _ hu (Xx K (pv 0)) (pv 1) (fun _ _=>rfl))) (XG (XI (@dI _ _ _ (Xz (Xx K (pv 0)) a9 (hr.mono (XU)) aR (Xo (pv 1) (Xo (pv 2) ai))) (by intro _;rfl)) (XG (@aY _ _ _ _ (Xz (Xx K (pv 0)) bV (hr.mono (XU)) aR (Xo (pv 2) ai)) (XW)) (XB (@aY _ _ _ _ (Xz (Xx K (pv 0)) cI (hr.mono (XU)) aR (Xo (pv 2) (Xo (pv 3) ai))) (XW)))) aT) (XB (@bL _ _ _ _ _ _ _ _ hX.own XS (@bu _ K _ _ _ (Xz (Xx K (pv 0)) aV (hr.mono (XU)) aR (Xo (pv 1) ai)) (XW)) (Xr (4) eR.nd (Or.inl rfl)) (XB (@aY _ _ _ _ (Xz (pv 0) bW (hr.mono (XU)) aR (Xo (pv 4) (Xo (pv 3) ai))) (XW))) (by intro _;rfl))))),?_⟩;obtain⟨dx,g,dk,km,S1,D⟩:=id G;obtain⟨tl,vl,xE⟩:∃tl,bh km (a8 (aN (i+1,j+1)))=some (.ref tl)∧H tl=some (.tup (ju r)):=by have:=D.mv (aN (i+1,j+1));rw[hs]at this;exact this
  obtain⟨KI,i2,j2,e2,OV⟩:=OK.mr _ _ hs;obtain⟨rfl,rfl⟩:=hV e2;refine⟨fun σ H1=>H1=H∧σ=[some (.ref x),some (.ref tc),some (.ref tp),some (.ref tl),none],⟨_,rfl,x,ay,dx,_,_,rfl,D.ob,Hc.cl,Hc.marks,kQ tr W g dk,_,rfl,dk,_,rfl,by have:=jx.t (k:=a8 (aN (i+1,j+1))) D.hk hc;rw[vl]at this;exact this,rfl,rfl⟩,?_⟩;rintro σ H1 ⟨rfl,rfl⟩;have T1:=TR.keep BA.same;refine⟨fun σ H2=>σ=[some (.ref x),some (.ref tc),some (.ref tp),some (.ref tl),none]∧∃S',nS S H1 S' H2∧gQ H2 ay aF x tr W S' (Hk f1 o p i j s1 r) (B+1) M,?_,?_⟩
  ·refine⟨_,rfl,x,ay,dx,_,_,rfl,D.ob,Hc.cl,Hc.rW,lI tr W g dk,tr,dt,_,rfl,T1.ob,Hh o p e b,_,rfl,_,rfl,tr,dt,e,b,es,bs,f1,o,p,n,m,tc,tp,i+1,j+1,i,j,rfl,T1,hc,hp,XT,XT,hi,hj,_,rfl,?_⟩;unfold Hk;refine bj (fun hh=>?_) (fun hh=>?_)
   ·have hh:=of_decide_eq_true hh;rw[XH hh];refine⟨fun σ H2=>σ=[some (.ref x),some (.ref tc),some (.ref tp),some (.ref tl),none]∧∃S',nS S H1 S' H2∧gQ H2 ay aF x tr W S' (Hj s1.1 (aN (i,j)),s1.2) (B+1) M,?_,?_⟩
    ·obtain⟨dg,dl,dm,kl,F1,ld,mm,og,_⟩:=id D.gr;refine⟨_,rfl,x,ay,dx,_,_,rfl,D.ob,Hc.cl,Hc.groups,iB tr W g dk,g,dg,_,rfl,og,D0 dl dm,_,rfl,g,tp,aN (i,j),S1,s1.1,B,rfl,D.gr,hp,XT,fun H' J0 u G'=>?_⟩;obtain⟨S',S2,u2,D2⟩:=D.Od u G';exact⟨rfl,S',u2,dx,g,dk,km,S2,D2⟩
    rintro σ H2 ⟨rfl,S',u2,G2⟩;obtain⟨Oy,g2,Oz,F1,S2,D2⟩:=id G2;have T:=u2.cF G.nt;obtain⟨dg,dl,dm,kl,Xc,ld,mm,og,_⟩:=id D2.gr;refine⟨_,rfl,x,ay,Oy,_,_,rfl,D2.ob,Hc.cl,Hc.groups,iB tr W g2 Oz,g2,dg,_,rfl,og,AA dl dm,_,rfl,_,rfl,g2,tp,tl,aN (i,j),r,S2,_,B+1,rfl,D2.gr,T _ _ hp,T _ _ xE, .inr ⟨rfl,rfl⟩, .inl KI,XT,fun H' u G'=>?_⟩;obtain⟨N_,S3,u3,D3⟩:=D2.Od u G';exact⟨rfl,N_,u2.trans u3,Oy,g2,Oz,F1,S3,D3⟩
   ·have hh:¬dh f1 o p i j=Bq f1 o p (i+1) (j+1):=fun z=>hh (decide_eq_true z)
    rw[XE hh];exact⟨rfl,S, .same (.refl _),G.cast rfl (XT) (Nat.le_refl _)⟩
  rintro σ H2 ⟨rfl,S2,u2,G2⟩;obtain⟨VR,SS,_⟩:=D9 TP OK KI OV;have AM:=BA.ups u2;have T2:=TR.keep AM.same;have TT:=u2.cF G.nt;obtain⟨Oy,g2,Oz,F1,S3,D2⟩:=id G2;refine⟨_,rfl,x,ay,Oy,_,_,rfl,D2.ob,Hc.cl,Hc.rW,lI tr W g2 Oz,tr,dt,_,rfl,T2.ob,Ay o p e b,_,rfl,tr,dt,e,b,es,bs,f1,o,p,n,m,tc,i,j,rfl,T2,TT _ _ hc,hi,hj,fun H3 rr us s3 qI vM P3=>?_⟩;refine⟨rr,rfl,⟨_, .of vM⟩,?_⟩;have hlen:(bf f1 o p i j).length≤2:=by
   unfold bf;rw[List.length_append];split<;>split<;>simp
  have VS:=qo TP OV;refine cG (xs:=us) (fun k σ H4=>(∃w,σ=[some (.ref x),some (.ref tc),some (.ref tp),some (.ref tl),w])∧∃S4,nS S H1 S4 H4∧gQ H4 ay aF x tr W S4 (((bf f1 o p i j).take k).foldl (fun s c=>xF s c r) (Hk f1 o p i j s1 r)) (B+1) (M+k)∧H4 rr=some (.lst us)∧eG H4 us (bf f1 o p i j)∧¬S4 rr∧H4 tl=some (.tup (ju r))) ?_ ?_ ?_ ?_
  ·have G3:=G2.same s3;refine⟨⟨_,rfl⟩,S2,u2.trans (.same s3),G3.cast XN (Nat.le_refl _) (Nat.le_refl _),vM,P3,G2.out qI,s3 _ _ (TT _ _ xE)⟩
  ·rintro k σ H4 _ ⟨_,S4,_,_,h4,_⟩;exact .of h4
  ·rintro k v σ H4 hv ⟨⟨w,rfl⟩,S4,u4,G4,h4,P4,n4,t4⟩;have hk:k<(bf f1 o p i j).length:=by rw[←P4.1];exact(Xv hv).1
   have ek:(bf f1 o p i j)[k]?=some (bf f1 o p i j)[k]:=by simp[hk]
   have iJ:(bf f1 o p i j)[k]∈bf f1 o p i j:=List.getElem_mem hk;generalize (bf f1 o p i j)[k]=c at ek iJ;obtain⟨t,k1,k2⟩:=P4.2 k c ek;rw[hv]at k1;cases k1;obtain⟨VT,VU,_⟩:=rV TP ((bf f1 o p i j).take k) _ VR (SS.e _ _ KI) (fun c hc=>VS c (List.mem_of_mem_take hc));obtain⟨VV,g4,VW,Xd,S5,D4⟩:=id G4;refine⟨_,rfl,x,VV,_,rfl,D4.ob,AG tr W g4 VW,_,rfl,_,rfl,x,t,tl,tr,W,c,r,S4,_,B+1,M+k,rfl,G4,k2,t4,VU.e _ _ (SS.e _ _ KI),fun r0 h=>(VT.mr _ _ h).1,XT,XT,fun H5 S6 u5 G5=>?_⟩;have T5:=u5.cF G4.nt;refine⟨⟨_,rfl⟩,S6,u4.trans u5,G5.cast ?_ (Nat.le_refl _) (XT),u5.keep rr _ n4 h4,P4.cF T5,u5.out n4 h4,T5 _ _ t4⟩;rw[List.take_succ,ek];simp
  ·rintro σ H4 ⟨⟨w,rfl⟩,S4,u4,G4,h4,P4,n4,t4⟩;refine q _ S4 u4 (G4.cast ?_ (Nat.le_refl _) (by have:=P4.1;omega));rw[P4.1,List.take_length];rfl
variable(ie:dY P w K mg base true 1 aF "has" ["self","pair"] (Yj aF))
variable(dw:dY P w K mg base true 3 ay "go_over" ["self","crossing","pair"] (rY ay aF az))
theorem fB:aJ ["self","i","j","pair","behind"] ["self","i","j"] (aq d_):=⟨rfl,rfl,rfl,by decide+kernel,rfl,by decide+kernel,by decide+kernel⟩
include T Rc bU Hc bV bW ie dw in
theorem mO{f:Addr}{fd:FuncData}(F:gT K "visit" "Gathering.visit" d_ f fd):aZ P w K mg base (de P w) true 4 f fd ["self","i","j"] (pS ay aF az):=by
 refine F.gA fB XO (fun cc A outer s H vs Q E hr h hX=>?_)
 ·obtain⟨x,tr,dt,e,b,es,bs,f,o,p,n,m,W,i,j,S,s1,B,M,H0,rfl,_⟩:=h;rfl
 ·obtain⟨x,tr,dt,e,b,es,bs,f1,o,p,n,m,W,i,j,S,s1,B,M,H0,rfl,G,TR,BA,hi,hj,hn,hm,TP,OK,hB,hM,q⟩:=h;have hu:=hr.units;have hu:(A.deeper (PyProof.Rows.envOfC "Gathering.visit" (aq d_) s.heap.objs.size f cc)).units+1<cLine:=XT;refine⟨_,(XG (Xp (3) fB.nd (@fK _ _ _ _ _ (Xo (pv 1) (Xo (pv 2) ai)))) (XG (Xp (4) fB.nd (@fK _ _ _ _ _ (Xo (Xw bo (pv 1) af) (Xo (Xw bo (pv 2) af) ai)))) (XG (XI (@a7 _ _ _ _ _ _ _ _ iD (Xs (Xs (Xx K (Xx K (pv 0))) (pv 1)) (pv 2)) (Xx K (pv 0)) (aW _)) (XB (@aY _ _ _ _ (Xz (Xx K (pv 0)) bV (hr.mono (XU)) aR (Xo (pv 3) ai)) (XW))) aT) (XG (XI (XC (@rA _ _ _ _ _ hu (pv 4) (Xx K (pv 0)))) (XB (@aY _ _ _ _ (Xz (pv 0) dw (hr.mono (XU)) aR (Xo (pv 4) (Xo (pv 3) ai))) (XW))) aT) (XB (XI (@PW.pt _ _ _ (@pw_and _ _ _ _ _ _ _ (@dI _ _ _ (Xz (Xx K (pv 0)) ie (hr.mono (XU)) aR (Xo (pv 3) ai)) (by intro _;rfl)) (@pw_and1 _ _ _ _ (@dI _ _ _ (Xz (Xx K (pv 0)) bU (hr.mono (XU)) aR (Xo (pv 3) ai)) (by intro _;rfl))))) (XB (@aY _ _ _ _ (Xz (pv 0) bW (hr.mono (XU)) aR (Xo (pv 3) (Xo (pv 3) ai))) (XW))) aT)))))),?_⟩;refine⟨fun σ H1=>∃t,σ=[some (.ref x),some (.int i),some (.int j),some (.ref t),none]∧ax H H1∧H1 t=some (.tup (ju (aN (i,j)))),⟨_,rfl,_,rfl,aD XN,fun t ht=>⟨t,rfl,ax.upd ht,ae⟩⟩,?_⟩;rintro σ H1 ⟨t,rfl,s2,ht⟩;refine⟨fun σ H2=>∃u,σ=[some (.ref x),some (.int i),some (.int j),some (.ref t),some (.ref u)]∧ax H1 H2∧H2 u=some (.tup (ju (aN (i+1,j+1)))),⟨_,rfl,_,_,rfl,rfl,_,rfl,_,_,rfl,rfl,aD XN,fun u hu=>⟨u,rfl,ax.upd hu,ae⟩⟩,?_⟩;rintro σ H2 ⟨u,rfl,s3,N9⟩;have sq:=s3 _ _ ht;have J7:=s2.trans s3;have G2:=G.same J7;have AM:=BA.more J7;have T2:=TR.keep AM.same;obtain⟨rb,g1,g2,g3⟩:=T2.te.at hi;refine⟨fun σ H3=>σ=[some (.ref x),some (.int i),some (.int j),some (.ref t),some (.ref u)]∧∃S',nS S H2 S' H3∧gQ H3 ay aF x tr W S' (FY f1 o p W i j s1) (B+1) M,?_,?_⟩
  ·obtain⟨dx,g,dk,km,S1,D⟩:=id G2;refine⟨_,rfl,x,ay,dx,_,_,rfl,D.ob,Hc.cl,Hc.rW,lI tr W g dk,tr,az,dt,_,_,rfl,T2.ob,Rc.cl,Rc.jY,gO o p e b,_,rfl,e,_,_,_,rfl,rfl, .of T2.he,av g2,_,rfl,rb,_,_,_,rfl,rfl, .of g3,av (cU hj),_,rfl,x,ay,dx,_,_,rfl,D.ob,Hc.cl,Hc.worth,Ec tr W g dk,?_⟩;have Ht:decide (bx (dh f1 o p i j)=V.int W)=decide (dh f1 o p i j=some W):=by cases dh f1 o p i j<;>simp[bx]
   refine⟨by cases dh f1 o p i j<;>rfl,_,rfl,?_⟩;rw[Ht];unfold FY;refine bj (fun hh=>?_) (fun hh=>?_)
   ·have hh:=of_decide_eq_true hh;rw[XH hh];obtain⟨dg,dl,dm,kl,F1,ld,mm,og,_⟩:=id D.gr;refine⟨_,rfl,x,ay,dx,_,_,rfl,D.ob,Hc.cl,Hc.groups,iB tr W g dk,g,dg,_,rfl,og,D0 dl dm,_,rfl,g,t,aN (i,j),S1,s1.1,B,rfl,D.gr,sq,XT,fun H' J0 u G'=>?_⟩;obtain⟨S',S2,u2,D2⟩:=D.Od u G';exact⟨rfl,S',u2,dx,g,dk,km,S2,D2⟩
   ·have hh:¬dh f1 o p i j=some W:=fun z=>hh (decide_eq_true z)
    rw[XE hh];exact⟨rfl,S, .same (.refl _),G2.cast rfl (XT) (Nat.le_refl _)⟩
  rintro σ H3 ⟨rfl,S3,u3,G3⟩;have OA:=u3.cF G2.nt;have Gi:=AM.ups u3;obtain⟨VX,GW1,_⟩:=D_ OK i j;refine⟨fun σ H4=>σ=[some (.ref x),some (.int i),some (.int j),some (.ref t),some (.ref u)]∧∃S',nS S3 H3 S' H4∧gQ H4 ay aF x tr W S' (Cc f1 o p W i j s1) (B+2) (M+2),?_,?_⟩
  ·obtain⟨dx,g,dk,km,S1,D⟩:=id G3;refine⟨_,rfl,_,rfl,x,ay,dx,_,_,rfl,D.ob,Hc.cl,Hc.marks,kQ tr W g dk,dk,_,rfl, .t (k:=a8 (aN (i+1,j+1))) D.hk (OA _ _ N9),_,rfl,?_⟩;have mv:=D.mv (aN (i+1,j+1));have ee:(FY f1 o p W i j s1).2=s1.2:=rfl;rw[ee]at mv;unfold Cc;cases e9:s1.2 (aN (i+1,j+1))with
   |none=>
    rw[e9]at mv;have mv:bh km (a8 (aN (i+1,j+1)))=none:=mv;rw[mv];refine jU ?_;exact⟨rfl,S3, .same (.refl _),G3.cast rfl (XT) (XT)⟩
   |some r=>
    rw[e9]at mv;obtain⟨tl,vl,xE⟩:=mv;rw[vl];refine kI ?_;exact⟨_,rfl,x,dx,_,rfl,D.ob,FZ tr W g dk,_,rfl,_,rfl,x,u,t,tr,dt,e,b,es,bs,f1,o,p,n,m,W,i,j,r,S3,_,B+1,M,H0,rfl,G3,TR,Gi,OA _ _ N9,OA _ _ sq,hi,hj,TP,VX,e9,XT,XT,fun H' S' u G'=>⟨rfl,S',u,G'⟩⟩
  rintro σ H4 ⟨rfl,S4,u4,G4⟩;have VY:=u4.cF G3.nt;have VZ:=Gi.ups u4;have T4:=TR.keep VZ.same;have OB:=VY _ _ (OA _ _ sq);obtain⟨V1,GW2,_⟩:=Ea TP OK i j;have uu:nS S H S4 H4:=(nS.same J7).trans (u3.trans u4);obtain⟨dx,g,dk,km,S1,D⟩:=id G4;obtain⟨dg,dl,dm,kl,F1,ld,mm,og,_⟩:=id D.gr;refine⟨_,rfl,x,ay,dx,_,_,rfl,D.ob,Hc.cl,Hc.groups,iB tr W g dk,g,dg,_,rfl,og,MJ dl dm,_,rfl,g,t,aN (i,j),S1,_,B+2,rfl,D.gr,OB,fun b1 g7=>?_⟩;refine⟨_,rfl,?_⟩;refine bj (fun hh=>?_) (fun hh=>?_)
  ·refine⟨_,rfl,x,ay,dx,_,_,rfl,D.ob,Hc.cl,Hc.rW,lI tr W g dk,tr,dt,_,rfl,T4.ob,DZ o p e b,_,rfl,tr,dt,e,b,es,bs,f1,o,p,n,m,t,i,j,rfl,T4,OB,XT,XT,_,rfl,?_⟩;refine bj (fun h2=>?_) (fun h2=>?_)
   ·have m3:=g7.mp hh;refine⟨_,rfl,x,dx,_,rfl,D.ob,AG tr W g dk,_,rfl,_,rfl,x,t,t,tr,W,aN (i,j),aN (i,j),S4,_,B+2,M+2,rfl,G4,OB,OB,m3,fun r0 h=>(V1.mr _ _ h).1,XT,XT,fun H5 S5 u5 G5=>?_⟩;refine q _ S5 (uu.trans u5) ?_;unfold X9;rw[XH ⟨m3,h2⟩];exact G5
   ·refine q _ S4 uu (G4.cast ?_ XQ (XT));unfold X9;rw[XE (fun z=>h2 z.2)]
  ·refine jU ?_;refine q _ S4 uu (G4.cast ?_ XQ (XT));unfold X9;rw[XE (fun z=>hh (g7.mpr z.1))]
variable(ig:l5 P w K mg base true 3 "Gathering" ay ["self","trails","worth"] [] (pR ay aF))
variable(eA:dY P w K mg base true 4 ay "visit" ["self","i","j"] (pS ay aF az))
variable(gG:dY P w K mg base true 1 aF "told" ["self"] (vE aF))
theorem fU:aJ ["trails","worth","gathering","i","j"] ["trails","worth"] (aq jo):=⟨rfl,rfl,rfl,by decide+kernel,rfl,by decide+kernel,by decide+kernel⟩
include T Rc Hc ig eA gG in
theorem sD{f:Addr}{fd:FuncData}(F:jy K "best_groups" "best_groups" jo f fd):aZ P w K mg base (de P w) true 5 f fd ["trails","worth"] (Yb az):=by
 refine F.gA fU XO (fun cc A outer s H vs Q E hr h hX=>?_)
 ·obtain⟨tr,dt,e,b,es,bs,f,o,p,n,m,W,rfl,_⟩:=h;rfl
 ·obtain⟨tr,dt,e,b,es,bs,f1,o,p,n,m,W,rfl,TR,IT,SU,hn,hm,TP,q⟩:=h;refine⟨_,(XG (Xp (2) fU.nd (@qW _ _ _ _ _ _ _ _ _ _ _ _ _ _ ig (hr.mono (XU)) hX.pass (Xo (pv 0) (Xo (pv 1) ai)) (XW) (XU) (XW) (XW))) (XG (@bL _ _ _ _ _ _ _ _ hX.own XS (@uE _ _ _ _ _ _ _ _ (by exact rfl) T.fo (Xo (Xw cA (Xu (aM K) (by exact rfl) T.eF PyProof.Rows.Boot.«len» (Xo (Xx K (pv 0)) ai)) af) (Xo (@l0 _ _ _ _ _ _ jk af) (Xo (@l0 _ _ _ _ _ _ jk af) ai))) (XW) (XW)) (Xr (3) fU.nd (Or.inl rfl)) (XB (@bL _ _ _ _ _ _ _ _ hX.own XS (@uE _ _ _ _ _ _ _ _ (by exact rfl) T.fo (Xo (Xw cA (Xu (aM K) (by exact rfl) T.eF PyProof.Rows.Boot.«len» (Xo (Xs (Xx K (pv 0)) (pv 3)) ai)) af) (Xo (@l0 _ _ _ _ _ _ jk af) (Xo (@l0 _ _ _ _ _ _ jk af) ai))) (XW) (XW)) (Xr (4) fU.nd (Or.inl rfl)) (XB (@aY _ _ _ _ (Xz (pv 2) eA (hr.mono (XU)) aR (Xo (pv 3) (Xo (pv 4) ai))) (XW))) (by intro _;rfl))) (by intro _;rfl)) (XB (@aO _ _ _ _ (@Bg _ _ _ _ _ _ _ _ _ _ _ _ _ (Xx K (pv 2)) gG (hr.mono (XU)) aR (XW)))))),?_⟩;refine⟨fun σ H1=>∃gx S,σ=[some (.ref tr),some (.int W),some (.ref gx),none,none]∧Base H H1 S∧gQ H1 ay aF gx tr W S (fun _ _=>False,fun _=>none) 0 0,?_,?_⟩
  ·refine⟨_,rfl,_,rfl,fun y dy hy J4 d6=>⟨y,dy,tr,W,rfl,ae,fun H' S sb fr G=>⟨rfl,y,S,rfl,⟨SameBut.YS hy J4 sb,fun a ha=>?_⟩,G⟩⟩⟩;have:=fr a ha;cases e9:H a with
   |none=>rfl
   |some o9=>rw[aj (aA e9 hy),aj (aA e9 J4),e9]at this;cases this
  rintro σ H1 ⟨gx,S,rfl,BA,G⟩;have Gb:es.length=n:=TR.te.1;have V0:=Vd.start f1 o p W n m;refine⟨fun σ H2=>(∃u v,σ=[some (.ref tr),some (.int W),some (.ref gx),u,v])∧∃S s B M,Base H H2 S∧gQ H2 ay aF gx tr W S s B M∧Vd f1 o p W (Vb n m 0 0) s∧B≤6000,?_,?_⟩
  ·have T1:=TR.keep BA.same;refine⟨_,rfl,tr,az,dt,_,_,rfl,T1.ob,Rc.cl,Rc.jY,gO o p e b,e,_,rfl, .inl (.of T1.he),_,_,rfl,rfl,_,rfl,_,rfl,_,_,rfl,⟨by rw[List.length_map,Gb];lia,by rw[List.length_map,Gb];lia,XU,XU⟩,?_⟩;have en:((((es.map V.ref).length:Nat):Int)-1- -1).toNat=n:=by rw[List.length_map,Gb];lia
   rw[en];refine xA (fun k σ H2=>(∃u v,σ=[some (.ref tr),some (.int W),some (.ref gx),u,v])∧∃S s B M,Base H H2 S∧gQ H2 ay aF gx tr W S s B M∧Vd f1 o p W (Vb n m (n-k) 0) s∧B≤2*(k*m)∧M≤3*(k*m)) ⟨⟨_,_,rfl⟩,S,_,0,0,BA,G,V0,by lia,by lia⟩ ?_ ?_
   ·rintro k σ H2 hk ⟨⟨u,v,rfl⟩,S2,s2,B,M,AM,G2,V2,hB,hM⟩;have ei:(((es.map V.ref).length:Nat):Int)-1-(k:Int)=((n-1-k:Nat):Int):=by rw[List.length_map,Gb];lia
    rw[ei];have T2:=TR.keep AM.same;obtain⟨rb,g1,g2,g3⟩:=T2.te.at (show n-1-k<n by lia);have V2:Vd f1 o p W (Vb n m (n-1-k) m) s2:=Vd.turn (by rw[show n-1-k+1=n-k by lia];exact V2);have Xe:(k+1)*m≤n*m:=Nat.mul_le_mul_right m XR;have Xf:(k+1)*m=k*m+m:=Nat.succ_mul k m;have lm:∀g:Nat→Option Int,(cS m g).length=m:=fun g=>by simp[cS]
    refine⟨_,rfl,tr,az,dt,_,_,rfl,T2.ob,Rc.cl,Rc.jY,gO o p e b,_,rfl,e,_,_,_,rfl,rfl, .of T2.he,av g2,rb,_,rfl, .inl (.of g3),_,_,rfl,rfl,_,rfl,_,rfl,_,_,rfl,⟨by rw[lm];lia,by rw[lm];lia,XU,XU⟩,?_⟩;have V4:((((cS m (dh f1 o p (n-1-k))).length:Nat):Int)-1- -1).toNat=m:=by rw[lm];lia
    rw[V4];refine xA (fun l σ H3=>(∃v,σ=[some (.ref tr),some (.int W),some (.ref gx),some (.int ((n-1-k:Nat):Int)),v])∧∃S s B M,Base H H3 S∧gQ H3 ay aF gx tr W S s B M∧Vd f1 o p W (Vb n m (n-1-k) (m-l)) s∧B≤2*(k*m+l)∧M≤3*(k*m+l)) ⟨⟨_,rfl⟩,S2,s2,B,M,AM,G2,V2,hB,hM⟩ ?_ ?_
    ·rintro l σ H3 hl ⟨⟨v3,rfl⟩,S3,s3,B3,M3,Gi,G3,V3,V5,V6⟩;have ej:(((cS m (dh f1 o p (n-1-k))).length:Nat):Int)-1-(l:Int)=((m-1-l:Nat):Int):=by rw[lm];lia
     rw[ej];obtain⟨dx,g,dk,km,S1,D⟩:=id G3;have V3:Vd f1 o p W (Vb n m (n-1-k) (m-1-l+1)) s3:=by rw[show m-1-l+1=m-l by lia];exact V3
     refine⟨_,rfl,gx,dx,_,rfl,D.ob,Ed tr W g dk,_,rfl,_,rfl,gx,tr,dt,e,b,es,bs,f1,o,p,n,m,W,n-1-k,m-1-l,S3,s3,B3,M3,H,rfl,G3,TR,Gi,by lia,by lia,hn,hm,TP,V3.ok,by lia,by lia,fun H4 S4 u4 G4=>?_⟩;refine⟨⟨_,rfl⟩,S4,_,_,_,Gi.ups u4,G4,?_,by lia,by lia⟩;have:=V3.next TP (show n-1-k<n by lia) (show m-1-l<m by lia);rw[show m-(l+1)=m-1-l by lia];exact this
    ·rintro σ H3 ⟨⟨v3,rfl⟩,S3,s3,B3,M3,Gi,G3,V3,V5,V6⟩;refine⟨⟨_,_,rfl⟩,S3,s3,B3,M3,Gi,G3,?_,by lia,by lia⟩;rw[show n-(k+1)=n-1-k by lia,show(0:Nat)=m-m by lia];exact V3
   ·rintro σ H2 ⟨⟨u,v,rfl⟩,S2,s2,B,M,AM,G2,V2,hB,hM⟩;rw[Nat.sub_self]at V2;exact⟨⟨_,_,rfl⟩,S2,s2,B,M,AM,G2,V2,by lia⟩
  rintro σ H2 ⟨⟨u,v,rfl⟩,S2,s2,B,M,AM,G2,V2,hB⟩;obtain⟨dx,g,dk,km,S1,D⟩:=id G2;obtain⟨dg,dl,dm,kl,F1,ld,mm,og,_⟩:=id D.gr;have HG:=fun a b=>V2.Qy TP IT a b
  refine⟨_,rfl,gx,ay,dx,_,_,rfl,D.ob,Hc.cl,Hc.groups,iB tr W g dk,g,dg,_,rfl,og,JS dl dm,g,S1,_,B,rfl,D.gr,by lia,fun H3 r us gs u3 qI vM W3 Kl TD=>?_⟩;have Gi:Base H H2 S1:=⟨AM.same,fun a h=>AM.free a ((D.sS a).mpr (.inl h))⟩
  exact q _ r us gs (Gi.ups u3).same (AM.same.free qI) vM W3 (fun k a h=>AM.same.free (Kl k a h)) (TD.iff HG)
theorem mP:aJ ["taken","shut","pair"] ["taken"] (aq lL):=⟨rfl,rfl,rfl,by decide+kernel,rfl,by decide+kernel,by decide+kernel⟩
include T in
theorem Zw{f:Addr}{fd:FuncData}(F:jy K "shut_by" "shut_by" lL f fd):aZ P w K mg base (de P w) true 1 f fd ["taken"] vt:=by
 refine F.gA mP XO (fun cc A outer s H vs Q E hr h hX=>?_)
 ·obtain⟨v,shut,rfl,_⟩:=h;rfl
 ·obtain⟨v,shut,rfl,TV,hlen,q⟩:=h;have hu:=hr.units;have hu:(A.deeper (PyProof.Rows.envOfC "shut_by" (aq lL) s.heap.objs.size f cc)).units+1<cLine:=XT;refine⟨_,(XA (Xp (1) mP.nd kG) (XG (XI (XC (@m8 _ _ _ _ _ (pv 0))) (XB (@bL _ _ _ _ _ _ _ _ hX.own XS (@bu _ K _ _ _ (pv 0) (XW)) (Xr (2) mP.nd (Or.inl rfl)) (XB (@lz _ _ _ _ _ _ _ _ _ hu (pv 1) (pv 2) kn XS)) (by intro _;rfl))) aT) (XB (@aO _ _ _ _ (pv 1))))),?_⟩;refine fun d hd=>?_
  refine⟨fun σ H1=>(∃u,σ=[some v,some (.ref d),u])∧ax H H1∧∃kvs,H1 d=some (.dT kvs)∧Ah kvs shut,?_,?_⟩
  ·refine⟨_,rfl,_,rfl,?_⟩;rcases TV with⟨rfl,rfl⟩|⟨l,us,rfl,hl,P1⟩
   ·refine bj (fun hh=>absurd hh XN) (fun _=>?_);exact⟨⟨_,rfl⟩,ax.upd hd,[],ae,fun p=>by simp[wY]⟩
   ·refine bj (fun _=>?_) (fun hh=>absurd XN hh);have Ge:=P1.1;refine⟨_,rfl,l,rfl,⟨_, .of (ax.upd hd _ _ hl)⟩,?_⟩;refine cG (xs:=us) (fun i σ H'=>(∃u,σ=[some (.ref l),some (.ref d),u])∧ax H H'∧∃kvs,H' d=some (.dT kvs)∧kvs.length≤i∧Ah kvs (shut.take i)) ?_ ?_ ?_ ?_
    ·exact⟨⟨_,rfl⟩,ax.upd hd,[],ae,Nat.le_refl _,fun p=>by simp[wY]⟩
    ·rintro i σ H' _ ⟨_,s1,_⟩;exact .of (s1 _ _ hl)
    ·rintro i x σ H' hx ⟨⟨u,rfl⟩,s1,kvs,hD,hk,hS⟩;have hi:i<shut.length:=by rw[←Ge];exact(Xv hx).1
     obtain⟨t,wH,sq⟩:=P1.Kv hi;rw[hx]at wH;cases wH;refine⟨_,rfl,_,rfl,d,_,rfl, .t (k:=a8 (pr shut i)) hD (s1 _ _ sq) (a_ XQ),⟨_,rfl⟩,s1.e6 hd,_,ae,Nat.le_trans (fE _ _ _) (XT),fun p=>?_⟩;have e1:shut.take (i+1)=shut.take i++[pr shut i]:=by rw[List.take_succ,G0 hi];rfl
     rw[jv,e1];by_cases hp:p=pr shut i
     ·rw[XH (by rw[hp])];simp[hp]
     ·rw[XE (fun z=>hp ?_),hS p]
      ·simp[hp]
      ·simp only[a8,List.cons.injEq,Sum.inl.injEq,and_true]at z;exact Prod.ext z.1 z.2
    ·rintro σ H' ⟨⟨u,rfl⟩,s1,kvs,hD,_,hS⟩;rw[Ge,List.take_length]at hS;exact⟨⟨_,rfl⟩,s1,kvs,hD,hS⟩
  rintro σ H1 ⟨⟨u,rfl⟩,s1,kvs,hD,hS⟩;exact⟨_,rfl,q H1 d kvs s1 hD hS⟩
variable(lN:bN P w K mg base true 1 "shut_by" ["taken"] vt)
variable(dR:dY P w K mg base true 1 aQ "pair_worth" ["self","x","y"] (vi aQ))
theorem dD:aJ ["first","second","terms","taken","shut","worths","i","x","row"] ["first","second","terms","taken"] (aq fh):=⟨rfl,rfl,rfl,by decide+kernel,rfl,by decide+kernel,by decide+kernel⟩
include T Tc lN dR in
theorem sE{f:Addr}{fd:FuncData}(F:jy K "open_worths" "open_worths" fh f fd):aZ P w K mg base (de P w) true 2 f fd ["first","second","terms","taken"] (r_ aQ):=by
 refine F.gA dD XO (fun cc A outer s H vs Q E hr h hX=>?_)
 ·obtain⟨f,g,t,v,c,shut,rfl,_⟩:=h;rfl
 ·obtain⟨f1,g,t,v,c,shut,rfl,hf,hg,TF,TV,Pu,Qs,SR,q⟩:=h;have hu:=hr.units;have hu:(A.deeper (PyProof.Rows.envOfC "open_worths" (aq fh) s.heap.objs.size f cc)).units+1<cLine:=XT;have lx:(c.xs.map V.str).length=c.xs.length:=List.length_map ..;have ly:(c.ys.map V.str).length=c.ys.length:=List.length_map ..;refine⟨_,(XG (@aC _ _ (4) _ _ _ _ dD.nd XS (Or.inr rfl) (Xq lN aR (Xo (pv 3) ai)) (XW) (by exact .inl rfl)) (XG (Xp (5) dD.nd (@cf _ _ _ _ ai)) (XG (@bL _ _ _ _ _ _ _ _ hX.own XS (@nG _ K _ _ _ _ _ _ _ (by exact rfl) T.iY (Xo (pv 0) ai) (XW) (XW)) (@hJ _ K _ _ _ (2) _ (by exact rfl) (@bF _ _ _ _ _ (Xr (6) dD.nd (Or.inr rfl)) (@bF _ _ _ _ _ (Xr (7) dD.nd (Or.inr rfl)) g9 (XW)) (XW)) (XW) (XW) (XW)) (XG (@nz _ _ _ _ _ _ _ _ _ _ _ _ _ _ _ (8) _ _ (by exact rfl) dD.nd XS (by exact rfl) (show br ["first","second","terms","taken","shut","worths","i","x","row"] (aq fh) _ ["j","y"] [6,4,2,7] ["i","shut","terms","x"]from⟨rfl,by decide+kernel,by decide+kernel,by decide+kernel,rfl,rfl,by decide+kernel,by decide+kernel,by decide+kernel⟩) (@nG _ K _ _ _ _ _ _ _ (by exact rfl) T.iY (Xo (pv 1) ai) (XW) (XW)) (fun _ _ _ _ _=>(@hJ _ K _ _ _ (2) _ (by exact rfl) (@bF _ _ _ _ _ (Xr (0) (show(["j","y","i","shut","terms","x"]:List Str).Nodup by decide+kernel) (Or.inl rfl)) (@bF _ _ _ _ _ (Xr (1) (show(["j","y","i","shut","terms","x"]:List Str).Nodup by decide+kernel) (Or.inl rfl)) g9 (XW)) (XW)) (XW) (XW) (XW))) (fun _ _ _ _ _=>hG) (fun _ _ _ _ _=>(@m9 _ _ _ _ _ _ _ _ (XC (@rA _ _ _ _ _ hu (@fK _ _ _ _ _ (Xo (pv 2) (Xo (pv 0) ai))) (pv 3))) jj (Xz (pv 4) dR (hr.mono (XU)) aR (Xo (pv 5) (Xo (pv 1) ai))))) (XW) (by intro _;rfl)) (XB (@aY _ _ _ _ (Xy K PySem.F.plainAttrs_list PySem.F.slot_list_append PySem.F.type_list_append bK (pv 5) (Xo (pv 8) ai)) (XW)))) (by intro _;rfl)) (XB (@aO _ _ _ _ (pv 5)))))),?_⟩;refine⟨fun σ H1=>∃d kvs,σ=[some (.ref f1),some (.ref g),some (.ref t),some v,some (.ref d),none,none,none,none]∧ax H H1∧H1 d=some (.dT kvs)∧Ah kvs shut,?_,?_⟩
  ·exact⟨_,rfl,v,shut,rfl,TV,Pu,fun H1 d kvs s1 hd hS=>⟨d,kvs,rfl,s1,hd,hS⟩⟩
  rintro σ H1 ⟨d,kvs,rfl,s1,V7,hS⟩;refine⟨fun σ H2=>∃e,σ=[some (.ref f1),some (.ref g),some (.ref t),some v,some (.ref d),some (.ref e),none,none,none]∧ax H1 H2∧H1 e=none∧H2 e=some (.lst []),?_,?_⟩
  ·exact⟨aD XN,fun e he=>⟨e,rfl,ax.upd he,he,ae⟩⟩
  rintro σ H2 ⟨e,rfl,s2,Hq,KJ⟩;refine⟨fun σ H3=>(∃u1 u2 u3,σ=[some (.ref f1),some (.ref g),some (.ref t),some v,some (.ref d),some (.ref e),u1,u2,u3])∧ax H1 H3∧∃as:List Addr,H3 e=some (.lst (as.map V.ref))∧iI H3 as (kx c shut) c.xs.length c.ys.length∧(∀a∈as,H1 a=none∧a≠e)∧as.Nodup,?_,?_⟩
  ·refine⟨_,rfl,f1,rfl,⟨_, .of (s2 _ _ (s1 _ _ hf))⟩,?_⟩;refine Yr (xs:=c.xs.map V.str) (fun i σ H'=>(∃u1 u2 u3,σ=[some (.ref f1),some (.ref g),some (.ref t),some v,some (.ref d),some (.ref e),u1,u2,u3])∧ax H1 H'∧∃as:List Addr,H' e=some (.lst (as.map V.ref))∧iI H' as (kx c shut) i c.ys.length∧(∀a∈as,H1 a=none∧a≠e)∧as.Nodup) ?_ ?_ ?_ ?_
   ·exact⟨⟨_,_,_,rfl⟩,s2,[],KJ,⟨rfl,fun i a h=>by simp at h⟩,(fun a h=>by cases h), .nil⟩
   ·rintro i σ H' _ ⟨_,s3,_⟩;exact .of (s3 _ _ (s1 _ _ hf))
   ·rintro i x T' σ H' hx ⟨⟨u1,u2,u3,rfl⟩,s3,as,EH,TA,hn,EF⟩ hT;obtain⟨wx,OC,rfl⟩:=lD hx;have hi:i<c.xs.length:=(Xv OC).1;have s4:ax H1 (upd H' T' (.tup [.int i, .str wx])):=s3.trans (ax.upd hT);have OD:=ax.upd (o:= .tup [.int i, .str wx]) hT _ _ EH;have OE:=TA.same (ax.upd (o:= .tup [.int i, .str wx]) hT);refine⟨T',_,rfl, .of ae,rfl,_,_,rfl,_,_,rfl,rfl,?_⟩;generalize upd H' T' (.tup [.int i, .str wx])=H4 at s4 OD OE;clear TA EH s3 hT;refine⟨fun σ H5=>∃r,σ=[some (.ref f1),some (.ref g),some (.ref t),some v,some (.ref d),some (.ref e),some (.int i),some (.str wx),some (.ref r)]∧ax H4 H5∧H4 r=none∧H5 r=some (.lst (cS c.ys.length (kx c shut i))),?_,?_⟩
    ·have SV:=s4 _ _ (s1 _ _ hg);refine⟨_,rfl,g,rfl,⟨_, .of SV⟩,fun D hD=>?_⟩;refine uy (xs:=c.ys.map V.str) (fun j ys bA H5=>(∃w1 w2,bA=[w1,w2,some (.int i),some (.ref d),some (.ref t),some (.str wx)])∧ys=cS j (kx c shut i)∧H5 D=some (.lst ys)∧ax H4 H5) ⟨⟨_,_,rfl⟩,rfl,ae,ax.upd hD⟩ ?_ ?_ ?_
     ·rintro j ys bA H5 _ ⟨_,_,_,s5⟩;exact .of (s5 _ _ SV)
     ·rintro j y T2 ys bA H5 hy ⟨⟨w1,w2,rfl⟩,rfl,OF,s5⟩ M4;obtain⟨wy,Ce,rfl⟩:=lD hy;have hj:j<c.ys.length:=(Xv Ce).1;have s6:ax H4 (upd H5 T2 (.tup [.int j, .str wy])):=s5.trans (ax.upd M4);have Ni:=ax.upd (o:= .tup [.int j, .str wy]) M4 _ _ OF;refine⟨T2,_,rfl, .of ae,rfl,_,_,rfl,_,_,rfl,rfl,?_⟩;generalize upd H5 T2 (.tup [.int j, .str wy])=H6 at s6 Ni;refine u_ ?_;refine⟨_,rfl,_,rfl,aD XN,fun p hp=>?_⟩;have s7:=s6.trans (ax.upd (o:= .tup [.int (i:Int), .int (j:Int)]) hp);have sA:=s4.trans s7;have SW:=ax.upd (o:= .tup [.int (i:Int), .int (j:Int)]) hp _ _ Ni;have len:(cS j (kx c shut i)).length<sizeLine:=a_ (by rw[cT];omega);have sn:∀u,u=kx c shut i j→cS j (kx c shut i)++[bx u]=cS (j+1) (kx c shut i):=fun u e=>by rw[pI,e]
      have QZ:c.pw ((i:Int),(j:Int))=dz c.same c.fs wx wy:=Case.pw_of (by rw[rJ];exact OC) (by rw[rJ];exact Ce);refine⟨_,rfl,d,_,rfl, .t (k:=a8 ((i:Int),(j:Int))) (sA _ _ V7) ae,_,rfl,?_⟩;rw[hS];refine bj (fun h1=>?_) (fun h1=>?_)
      ·have h1:((i:Int),(j:Int))∈shut:=by simpa using h1
       refine⟨SW,len,⟨_,_,rfl⟩,?_,ae,s7.e6 hD⟩;exact sn none (by simp[kx,uz,h1])
      ·have h1:((i:Int),(j:Int))∉shut:=by simpa using h1
       obtain⟨n,dx,l,dd,vs,T1,e1,e2,e3,e4⟩:=(TF.keep s1).keep sA;refine⟨_,rfl,t,dx,_,rfl,T1.ob,vf n l dd,_,rfl,_,rfl,t,wx,wy,n,c.fs,dx,l,dd,vs,rfl,T1,fun H8 s8=>?_⟩;refine⟨s8 _ _ SW,len,⟨_,_,rfl⟩,?_,ae,(s7.trans s8).e6 hD⟩;exact sn _ (by simp[kx,uz,h1,QZ,e1])
     ·rintro ys bA H5 ⟨_,rfl,OF,s5⟩;rw[ly]at OF;exact⟨D,rfl,s5,hD,OF⟩
    rintro σ H5 ⟨r,rfl,s5,qI,Q0⟩;have SX:r≠e:=Ne.symm (aA OD qI);have hlen:=OE.len;refine⟨_,rfl, .inl ⟨rfl,_, .of (s5 _ _ OD)⟩,_,rfl,e,_,_,rfl,rfl,s5 _ _ OD,a_ (by rw[List.length_map];omega),⟨_,_,_,rfl⟩,(s4.trans s5).e6 Hq,as++[r],by rw[ae];simp,⟨by simp[hlen],fun k a hk=>?_⟩,fun a ha=>?_,List.nodup_append.mpr ⟨EF,XX,fun x hx y hy e9=>?_⟩⟩
    ·by_cases h:k<i
     ·rw[List.getElem?_append_left XQ]at hk;rw[aj (hn a (XF hk)).2];exact s5 _ _ (OE.row k a hk)
     ·rw[List.getElem?_append_right XQ]at hk;have Bt:k-as.length=0:=by
       have:=(Xv hk).1;simp at this;omega
      rw[Bt]at hk;have:r=a:=by simpa using hk
      subst this;rw[aj SX];have:k=i:=XT;rw[this];exact Q0
    ·rcases List.mem_append.mp ha with ha|ha
     ·exact hn a ha
     ·have:a=r:=by simpa using ha
      rw[this];exact⟨s4.free qI,SX⟩
    ·have hy:y=r:=by simpa using hy
     obtain⟨k,hk,ek⟩:=List.mem_iff_getElem.mp hx;have:=OE.row k x (by rw[List.getElem?_eq_getElem hk,ek]);rw[e9,hy,qI]at this;cases this
   ·rintro σ H' ⟨⟨u1,u2,u3,rfl⟩,s3,as,EH,TA,hn,EF⟩;rw[lx]at TA;exact⟨⟨_,_,_,rfl⟩,s3,as,EH,TA,hn,EF⟩
  rintro σ H3 ⟨⟨u1,u2,u3,rfl⟩,s3,as,EH,TA,hn,EF⟩;exact⟨_,rfl,q H3 e as (s1.trans s3) EH (s1.free Hq) TA EF (fun z=>(hn e z).2 rfl) fun a ha=>s1.free (hn a ha).1⟩
variable(lO:l5 P w K mg base true 4 "Trails" az ["self","worths","terms"] [] (pO az aQ))
variable(gH:bN P w K mg base true 5 "best_groups" ["trails","worth"] (Yb az))
variable(fV:bN P w K mg base true 6 "make_finding" ["trails","worth","pairs"] (Yc az aH))
theorem jr:aJ ["worths","terms","trails","worth"] ["worths","terms"] (aq fS):=⟨rfl,rfl,rfl,by decide+kernel,rfl,by decide+kernel,by decide+kernel⟩
include T Tc eQ Rc lO gH fV in
theorem tI{f:Addr}{fd:FuncData}(F:jy K "make_round" "make_round" fS f fd):aZ P w K mg base (de P w) true 7 f fd ["worths","terms"] (nV aQ aH):=by
 refine F.gA jr XO (fun cc A outer s H vs Q E hr h hX=>?_)
 ·obtain⟨w,t,as,c,f,n,m,rfl,_⟩:=h;rfl
 ·obtain⟨w,t,as,c,f1,n,m,rfl,hw,TA,TF,IT,SU,hn,hm,q0,q1⟩:=h;refine⟨_,(XG (@aC _ _ (2) _ _ _ _ jr.nd XS (Or.inr rfl) (@qW _ _ _ _ _ _ _ _ _ _ _ _ _ _ lO (hr.mono (XU)) hX.pass (Xo (pv 0) (Xo (pv 1) ai)) (XW) (XU) (XW) (XW)) (XW) (by exact .inl rfl)) (XG (@aC _ _ (3) _ _ _ _ jr.nd XS (Or.inr rfl) (Xq eQ aR (Xo (@lB _ _ _ _ _ _ _ _ _ _ _ _ _ _ (by exact rfl) (show br ["worths","terms","trails","worth"] (aq fS) _ ["row"] [] []from⟨rfl,by decide+kernel,by decide+kernel,by decide+kernel,rfl,rfl,by decide+kernel,by decide+kernel,by decide+kernel⟩) (@bu _ K _ _ _ (Xx K (pv 2)) (XW)) (fun _ _ _ _ _=>(Xr (0) (show(["row"]:List Str).Nodup by decide+kernel) (Or.inl rfl))) (fun _ _ _ _ _=>hG) (fun _ _ _ _ _=>(Xq eQ aR (Xo (pv 0) ai))) (by intro _;rfl)) ai)) (XW) (by exact .inl rfl)) (XG (XI (@PW.pt _ _ _ (@pw_or _ _ _ _ _ _ _ (XC (@mf _ _ _ _ _ (pv 3))) (@pw_or1 _ _ _ _ (@a7 _ _ _ _ _ _ _ _ m_ (pv 3) (Xx K (pv 1)) (aW _))))) (XB (@aO _ _ _ _ (@cf _ _ _ _ ai))) aT) (XB (@aO _ _ _ _ (@lB _ _ _ _ _ _ _ _ _ _ _ _ _ _ (by exact rfl) (show br ["worths","terms","trails","worth"] (aq fS) _ ["pairs"] [2,3] ["trails","worth"]from⟨rfl,by decide+kernel,by decide+kernel,by decide+kernel,rfl,rfl,by decide+kernel,by decide+kernel,by decide+kernel⟩) (@bu _ K _ _ _ (Xq gH aR (Xo (pv 2) (Xo (pv 3) ai))) (XW)) (fun _ _ _ _ _=>(Xr (0) (show(["pairs","trails","worth"]:List Str).Nodup by decide+kernel) (Or.inl rfl))) (fun _ _ _ _ _=>hG) (fun _ _ _ _ _=>(Xq fV aR (Xo (pv 1) (Xo (pv 2) (Xo (pv 0) ai))))) (by intro _;rfl))))))),?_⟩;refine⟨fun σ H1=>∃x dx e b es,σ=[some (.ref w),some (.ref t),some (.ref x),none]∧ax H H1∧H1 x=some (.ins az dx (gf c.out c.into e b))∧H1 e=some (.lst (es.map V.ref))∧iI H1 es (dh f1 c.out c.into) n m∧(0<n→∃bs,pN H1 az x dx e b es bs f1 c.out c.into n m),?_,?_⟩
  ·refine⟨_,rfl,_,rfl,fun x dx hx Dq d6=>?_⟩;have s5:ax H (upd (upd H dx (.own x)) x (.ins az dx [])):=(ax.upd Dq).e6 hx;refine⟨x,dx,w,t,c,as,f1,n,m,rfl,ae,by rw[aj d6];exact ae,s5 _ _ hw,TA.same s5,TF.keep s5,hn,hm,fun H6 e b sb SY Te Tb=>?_⟩;obtain⟨es,he,_,TE,_⟩:=Te;refine⟨rfl,x,dx,e,b,es,rfl,SameBut.YS hx Dq sb,SY,he,TE,fun h=>?_⟩;obtain⟨bs,hb,_,V8,_⟩:=Tb h;exact⟨bs,SY,he,TE,hb,V8⟩
  rintro σ H1 ⟨x,dx,e,b,es,rfl,s1,kP,Y0,TE,V9⟩;have Gb:es.length=n:=TE.len;refine⟨fun σ H2=>σ=[some (.ref w),some (.ref t),some (.ref x),some (bx (F5 f1 c.out c.into n m))]∧ax H1 H2,?_,?_⟩
  ·refine⟨_,rfl,x,az,dx,_,_,rfl,kP,Rc.cl,Rc.jY,gO c.out c.into e b,e,rfl,⟨_, .of Y0⟩,fun D hD=>?_⟩;refine iz (xs:=es.map V.ref) (fun k ys bA H'=>(∃u,bA=[u])∧ys=((List.range k).map fun i=>bx (nJ ((List.range m).map (dh f1 c.out c.into i))))∧H' D=some (.lst ys)∧ax H1 H') ⟨⟨_,rfl⟩,rfl,ae,ax.upd hD⟩ ?_ ?_ ?_
   ·rintro k ys bA H' _ ⟨_,_,_,s2⟩;exact .of (s2 _ _ Y0)
   ·rintro k v ys bA H' hv ⟨⟨u,rfl⟩,rfl,qG,s2⟩;have hk:k<n:=by rw[←Gb];have:=(Xv hv).1;simpa using this
    obtain⟨rb,g1,g2,g3⟩:=TE.at hk;rw[hv]at g2;cases g2;refine pA ?_;refine⟨_,rfl,rb,(List.range m).map (dh f1 c.out c.into k),rfl,?_,by simpa using hm,fun Oa s3=>?_⟩
    ·rw[s2 _ _ g3,List.map_map];rfl
    ·refine⟨s3 _ _ qG,a_ (by simp;omega),⟨_,rfl⟩,?_,ae,(s2.trans s3).e6 hD⟩;rw[List.range_succ,List.map_append];rfl
   ·rintro ys bA H' ⟨_,rfl,qG,s2⟩;rw[List.length_map,Gb]at qG;refine⟨D,(List.range n).map fun i=>nJ ((List.range m).map (dh f1 c.out c.into i)),rfl,by rw[qG,List.map_map];rfl,by simpa using hn,fun Oa s3=>⟨rfl,s2.trans s3⟩⟩
  rintro σ H2 ⟨rfl,s2⟩;have Hy:=s1.trans s2;obtain⟨nu,dt,l,d,vs,TM,z1,z2,z3,z4⟩:=TF.keep Hy;have MX:=Eh IT c.out c.into;refine⟨fun σ H3=>∃W,F5 f1 c.out c.into n m=some W∧c.least≤W∧σ=[some (.ref w),some (.ref t),some (.ref x),some (.int W)]∧H3=H2,?_,?_⟩
  ·refine⟨_,rfl,_,rfl,?_⟩;cases eT:F5 f1 c.out c.into n m with
   |none=>
    rw[eT]at MX;refine kI ?_;refine kI ?_;exact⟨aD XN,fun r qI=>q0 (fun ps hp=>absurd ⟨ps,hp,rfl⟩ (MX _)) _ r (Hy.trans (ax.upd qI)) (Hy.free qI) ae⟩
   |some W=>
    rw[eT]at MX;refine bj (fun hh=>absurd hh (by simp[bx])) (fun _=>?_);refine⟨_,rfl,_,rfl,t,aQ,dt,_,_,rfl,TM.ob,Tc.cl,Tc.least,Fm nu l d,_,_,rfl,rfl,_,rfl,?_⟩;refine bj (fun hh=>?_) (fun hh=>?_)
    ·have hh:W<nu.least:=by simpa using hh
     rw[z4]at hh;exact⟨aD XN,fun r qI=>q0 (fun ps hp=>by have:=MX.2 _ ⟨ps,hp,rfl⟩;omega) _ r (Hy.trans (ax.upd qI)) (Hy.free qI) ae⟩
    ·have hh:¬W<nu.least:=by simpa using hh
     rw[z4]at hh;exact⟨W,rfl,XT,rfl,rfl⟩
  rintro σ H2 ⟨W,eT,hle,rfl,rfl⟩;rw[eT]at MX;obtain⟨S7,w0,S8⟩:=MX.1;have TP:eJ f1 c.out c.into W:=fun ps hp=>MX.2 _ ⟨ps,hp,rfl⟩
  have QM:0<n:=by
   obtain⟨i,j,_,hi,_⟩:=jm IT w0 (cV w0.ne);omega
  obtain⟨bs,TR⟩:=V9 QM;have S9:=TR.keep s2;refine⟨_,rfl,_,rfl,x,dx,e,b,es,bs,f1,c.out,c.into,n,m,W,rfl,S9,IT,SU,hn,hm,TP,fun H3 r us gs s3 qI vM W3 Kl TD=>?_⟩;have Gj:∀g∈gs,∀a∈g,∃i j:Nat,a=aN (i,j)∧i<n∧j<m:=fun g hg a ha=>by
   obtain⟨ps,wp,hm⟩:=(TD.mem hg ha).on;exact jm IT wp.1 hm
  have nh:∀g∈gs,g.length≤n*m:=fun g hg=>by
   have:=len_sub g (vI n m) ((TD.tq g hg).imp fun{a b} h e=>by
    rw[e]at h;unfold jD at h;simp at h) fun a ha=>by
    obtain⟨i,j,rfl,hi,hj⟩:=Gj g hg a ha;exact r9 hi hj
   rw[r6]at this;exact this
  have Ba:=TD.XY Gj;have Q2:gs≠[]:=fun z=>by
   obtain⟨i,j,h1,_⟩:=jm IT w0 (cV w0.ne);obtain⟨g,hg,_⟩:=TD.all _ (gc.way S7 ⟨w0,S8.symm⟩ (cV w0.ne) (cV w0.ne));rw[z]at hg;cases hg
  have hW:=W3.1;refine⟨r,rfl,⟨_, .of vM⟩,fun D hD=>?_⟩;refine iz (xs:=us) (fun k ys bA H'=>(∃u,bA=[u,some (.ref x),some (.int W)])∧H' D=some (.lst ys)∧ax H3 H'∧∃ds,cw (fun b=>H2 b=none∧b≠D) H' aH ys ds∧ds.map Fd.pairs=gs.take k∧∀d∈ds,MR f1 c.out c.into W d) ⟨⟨_,rfl⟩,ae,ax.upd hD,[], .nil,rfl,fun d h=>(by cases h)⟩ ?_ ?_ ?_
  ·rintro k ys bA H' _ ⟨_,_,s4,_⟩;exact .of (s4 _ _ vM)
  ·rintro k v ys bA H' hv ⟨⟨u,rfl⟩,Hz,s4,ds,F4,Nj,bR⟩;have hk:k<gs.length:=by rw[←hW];exact(Xv hv).1
   have ek:gs[k]?=some gs[k]:=by simp[hk]
   have iJ:gs[k]∈gs:=List.getElem_mem hk;generalize gs[k]=g at ek iJ;obtain⟨pa,S_,k1,k2,k3⟩:=W3.2 k g ek;rw[hv]at k1;cases k1;have Q3:=Kl k pa hv;have Nk:pa≠D:=fun z=>by rw[z,hD]at k2;cases k2
   obtain⟨gn,Nl⟩:∃gn:List (Nat×Nat),g=gn.map aN:=by
    refine⟨g.map fun a=>(a.1.toNat,a.2.toNat),?_⟩;rw[List.map_map]
    conv=>lhs;rw[←List.map_id g]
    apply List.map_congr_left;intro a ha;obtain⟨i,j,rfl,_⟩:=Gj g iJ a ha;simp[aN]
   obtain⟨i0,j0,z5,z6,z7,z8⟩:∃i j:Nat,dh f1 c.out c.into i j=some W∧i<n∧j<m∧aN (i,j)∈g:=by
    obtain⟨a,ha⟩:=List.exists_mem_of_ne_nil _ (TD.ne g iJ);obtain⟨i,j,h1,h2,h3,h4⟩:=BH TP IT (TD.mem iJ ha);exact⟨i,j,h1,h2,h3,(TD.cls g iJ a ha _).mpr h4⟩
   have Q4:gn.filter (fun q=>decide (dh f1 c.out c.into q.1 q.2=some W))≠[]:=fun z=>by
    rw[Nl]at z8;obtain⟨q9,V_,e9⟩:=List.mem_map.mp z8;obtain⟨V',Wa⟩:=hV (a:=q9.1) (b:=q9.2) e9;have:q9∈gn.filter (fun q=>decide (dh f1 c.out c.into q.1 q.2=some W)):=List.mem_filter.mpr ⟨V_,by rw[V',Wa];simpa using z5⟩;rw[z]at this;cases this
   obtain⟨sF,Gf⟩:∃q0,(gn.filter fun q=>decide (dh f1 c.out c.into q.1 q.2=some W))[0]?=some q0:=by
    cases e9:gn.filter (fun q=>decide (dh f1 c.out c.into q.1 q.2=some W))with
    |nil=>exact absurd e9 Q4
    |cons a r=>exact⟨a,rfl⟩
   have Nm:=List.mem_filter.mp (XF Gf);have Q5:dh f1 c.out c.into sF.1 sF.2=some W:=by simpa using Nm.2
   have Wb:=S9.keep (s3.trans s4);refine pA ?_;refine⟨_,rfl,_,rfl,_,rfl,x,dx,e,b,es,bs,f1,c.out,c.into,n,m,W,pa,S_,gn,sF,rfl,Wb,s4 _ _ k2,by rw[←Nl];exact k3.same s4,fun q hq=>?_,Gf,hn,?_,fun H5 y dy wy rw jF s5 hy J4 Ce Q6 Wc Wd Q7 P5 Q0=>?_⟩
   ·have:aN q∈g:=by rw[Nl];exact List.mem_map.mpr ⟨q,hq,rfl⟩
    obtain⟨i,j,h1,h2,h3⟩:=Gj g iJ _ this;obtain⟨h4,h5⟩:=hV (a:=q.1) (b:=q.2) h1;omega
   ·have:=nh g iJ;rw[Nl,List.length_map]at this;omega
   ·obtain⟨v1,v2,v3,v4⟩:=F3 f1 c.out c.into sF.1 sF.1 sF.2 W (Nat.le_refl _) Q5;have Xg:=F4.1;have We:ds.length=k:=by
     have:=congrArg List.length Nj;rw[List.length_map,List.length_take]at this;omega
    have nD:∀{z},H' z=none→z≠D:=fun h z=>by rw[z,Hz]at h;cases h
    have Q8:ax H2 H':=s3.trans s4;refine⟨s5 _ _ Hz,a_ XQ,⟨_,rfl⟩,ae,(s4.trans s5).e6 hD,ds++[⟨W,(dZ f1 c.out c.into sF.1 sF.1 sF.2).map aN,AH (lf f1) c.out c.into ((dZ f1 c.out c.into sF.1 sF.1 sF.2).map aN),g⟩],?_,?_,fun d hd=>?_⟩
    ·refine cw.append (F4.keep (fun b o hb e=>by rw[aj hb.2];exact s5 _ _ e) (fun a v e=>by rw[aj (fun z=>by rw[z,Hz]at e;cases e)];exact s5 _ _ e) fun _ h=>h) ⟨rfl,fun k9 d9 e9=>?_⟩;have Wf:k9=0:=by
      have:=(Xv e9).1;simp at this;omega
     subst Wf;have e9:=(XM e9).symm;subst e9;have T5:fg H5 (upd H5 D (.lst (ys++[.ref y]))):=fg.lst (s5 _ _ Hz);refine⟨y,dy,wy,rw,pa,jF,S_,rfl,⟨by rw[aj (nD hy)];exact Wc,by rw[aj (nD Ce)];exact Q7,P5.cF T5,?_,by rw[aj Nk];exact s5 _ _ (s4 _ _ k2),((k3.same s4).same s5).cF T5,⟨Q8.free hy,nD hy⟩,⟨Q8.free Ce,nD Ce⟩,⟨Q8.free Q6,nD Q6⟩,⟨Q3,Nk⟩⟩⟩;rw[aj (nD Q6),Q0]
     congr 2
     have:=congrArg (List.map bx) v4;rw[List.map_map,List.map_map]at this;exact this
    ·rw[List.map_append,Nj,List.take_succ,ek];rfl
    ·rcases List.mem_append.mp hd with hd|hd
     ·exact bR d hd
     ·have:d=⟨W,(dZ f1 c.out c.into sF.1 sF.1 sF.2).map aN,AH (lf f1) c.out c.into ((dZ f1 c.out c.into sF.1 sF.1 sF.2).map aN),g⟩:=by simpa using hd
      subst this;refine⟨rfl,⟨v1,v3⟩,rfl,fun q hq=>?_⟩;have Ng:aN sF∈g:=by rw[Nl];exact List.mem_map.mpr ⟨_,Nm.1,rfl⟩
      have v2:lstP ((dZ f1 c.out c.into sF.1 sF.1 sF.2).map aN)=aN sF:=v2;exact(TD.cls g iJ _ Ng q).mpr (.way _ ⟨v1,v3⟩ (by rw[←v2];exact cV v1.ne) hq)
  ·rintro ys bA H' ⟨_,Hz,s4,ds,F4,Nj,bR⟩;rw[hW,List.take_length]at Nj;have sA:=Hy.trans (s3.trans s4);exact q1 W gs ds ⟨TP,⟨S7,w0,S8.symm⟩,hle,TD,Nj,bR⟩ Q2 _ D ys sA ((Hy.trans s3).free hD) Hz (F4.keep (fun _ _ _ h=>h) (fun _ _ h=>h) fun b hb=>Hy.free hb.1)
theorem gI:aJ ["worths","findings","finding","i","j"] ["worths","findings"] (aq j5):=⟨rfl,rfl,rfl,by decide+kernel,rfl,by decide+kernel,by decide+kernel⟩
include T Fc in
theorem tJ{f:Addr}{fd:FuncData}(F:jy K "shut_pairs" "shut_pairs" j5 f fd):aZ P w K mg base (de P w) true 1 f fd ["worths","findings"] (sf aH):=by
 refine F.gA gI XO (fun cc A outer s H vs Q E hr h hX=>?_)
 ·obtain⟨w,md,as,us,ds,f,n,m,rfl,_⟩:=h;rfl
 ·obtain⟨w,md,as,us,ds,f1,n,m,rfl,hw,Mz,nw,TA,Td,Wg,FL,m3,q⟩:=h;refine⟨_,(XB (@bL _ _ _ _ _ _ _ _ hX.own XS (@bu _ K _ _ _ (pv 1) (XW)) (Xr (2) gI.nd (Or.inl rfl)) (XB (@bL _ _ _ _ _ _ _ _ hX.own XS (@bu _ K _ _ _ (Xx K (pv 2)) (XW)) (@hJ _ K _ _ _ (2) _ (by exact rfl) (@bF _ _ _ _ _ (Xr (3) gI.nd (Or.inl rfl)) (@bF _ _ _ _ _ (Xr (4) gI.nd (Or.inl rfl)) g9 (XW)) (XW)) (XW) (XW) (XW)) (XB (@Cm _ _ _ _ _ _ jj (@Ig _ _ _ _ _ _ _ (Xs (pv 0) (pv 3)) (pv 4) set_list (by intro _;rfl)) (XW) (XW) (XW))) (by intro _;rfl))) (by intro _;rfl))),?_⟩;have rows:∀a∈as,∃xs,H a=some (.lst xs):=fun a ha=>by
   obtain⟨k,hk,ek⟩:=List.mem_iff_getElem.mp ha;exact⟨_,TA.row k a (by rw[List.getElem?_eq_getElem hk,ek])⟩
  have cF:∀H',(∀b o,b∉as→H b=some o→H' b=some o)→fg H H':=fun H' k t v e=>k t _ (fun z=>by
   obtain⟨xs,h⟩:=rows t z;rw[e]at h;cases h) e
  have hlen:=FL.1;refine⟨_,rfl,md,rfl,⟨_, .of Td⟩,?_⟩;refine cG (xs:=us) (fun k σ H1=>(∃u1 u2 u3,σ=[some (.ref w),some (.ref md),u1,u2,u3])∧(∀b o,b∉as→H b=some o→H1 b=some o)∧iI H1 as (kq f1 ((ds.take k).map Fd.pairs).flatten) n m) ⟨⟨_,_,_,rfl⟩,fun _ _ _ h=>h,TA⟩ ?_ ?_ ?_
  ·rintro k σ H1 _ ⟨_,k1,_⟩;exact .of (k1 _ _ Wg Td)
  ·rintro k v σ H1 hv ⟨⟨u1,u2,u3,rfl⟩,k1,T1⟩;have hk:k<ds.length:=by rw[←hlen];exact(Xv hv).1
   have ek:ds[k]?=some ds[k]:=by simp[hk]
   have iJ:ds[k]∈ds:=List.getElem_mem hk;generalize ds[k]=d at ek iJ;obtain⟨a,dy,wy,oZ,pr,rg,jF,e1,F⟩:=FL.2 k d ek;rw[hv]at e1;cases e1;have uk:=F.pp.1;have et:((ds.take (k+1)).map Fd.pairs).flatten=((ds.take k).map Fd.pairs).flatten++d.pairs:=by
    rw[List.take_succ,ek,List.map_append,List.flatten_append];simp
   refine⟨_,rfl,a,aH,dy,_,_,rfl,k1 _ _ F.fa F.ob,Fc.cl,Fc.pairs,nQ d.worth wy oZ pr,pr,rfl,⟨_, .of (k1 _ _ F.fp F.hp)⟩,?_⟩;refine cG (xs:=jF) (fun l σ H2=>(∃u2 u3,σ=[some (.ref w),some (.ref md),some (.ref a),u2,u3])∧(∀b o,b∉as→H b=some o→H2 b=some o)∧iI H2 as (kq f1 (((ds.take k).map Fd.pairs).flatten++d.pairs.take l)) n m) ⟨⟨_,_,rfl⟩,k1,by simpa using T1⟩ ?_ ?_ ?_
   ·rintro l σ H2 _ ⟨_,k2,_⟩;exact .of (k2 _ _ F.fp F.hp)
   ·rintro l v σ H2 J8 ⟨⟨v2,v3,rfl⟩,k2,T2⟩;have hl:l<d.pairs.length:=by rw[←uk];exact(Xv J8).1
    have el:d.pairs[l]?=some d.pairs[l]:=by simp[hl]
    have hq:=m3 d iJ d.pairs[l] (List.getElem_mem hl);generalize d.pairs[l]=g at el hq;obtain⟨i,j,rfl,hi,hj⟩:=hq;obtain⟨t,g1,g2⟩:=F.pp.2 l _ el;rw[J8]at g1;cases g1;have kt:=cF H2 k2 _ _ g2;refine⟨t,_,rfl, .of kt,rfl,_,_,rfl,_,_,rfl,rfl,?_⟩;obtain⟨ra,r1,r2,r3⟩:=T2.at hi;have Oi:ra∈as:=XF r1;refine⟨_,rfl,_,rfl,w,_,_,_,rfl,rfl, .of (k2 _ _ nw hw),av r2,_,rfl,ra,_,_,j,rfl,rfl,r3,Fp (by rw[cT];exact hj),⟨_,_,rfl⟩,fun b o hb e=>?_,⟨T2.len,fun x b hb=>?_⟩⟩
    ·rw[aj (fun z=>hb (by rw[z];exact Oi))];exact k2 b o hb e
    ·have Tf:d.pairs.take (l+1)=d.pairs.take l++[aN (i,j)]:=by rw[List.take_succ,el];rfl
     by_cases e:b=ra
     ·have ex:x=i:=by
       obtain⟨h1,e1⟩:=Xv hb;obtain⟨h2,e2⟩:=Xv r1;exact(List.getElem_inj Mz).mp (by rw[e1,e2,e])
      subst ex e;rw[ae];show some (HO.lst ((cS m _).set j (bx none)))=_;rw[Dv]
      congr 2
      unfold cS;apply List.map_congr_left;intro y _;unfold kq;rw[Tf,←List.append_assoc]
      congr 1
      dsimp only;by_cases ey:y=j
      ·subst ey;rw[if_pos rfl,if_pos XN]
      ·rw[XE ey];have:¬aN (x,y)=aN (x,j):=fun z=>ey (hV z).2
       simp[this]
     ·rw[aj e,T2.row x b hb]
      congr 2
      unfold cS;apply List.map_congr_left;intro y _;unfold kq;rw[Tf,←List.append_assoc];have:¬aN (x,y)=aN (i,j):=fun z=>by
       have hk:=(hV z).1;subst hk;rw[r1]at hb;exact e (XM hb).symm
      simp[this]
   ·rintro σ H2 ⟨⟨v2,v3,rfl⟩,k2,T2⟩;rw[uk,List.take_length]at T2;exact⟨⟨_,_,_,rfl⟩,k2,by rw[et];exact T2⟩
  ·rintro σ H1 ⟨_,k1,T1⟩;rw[hlen,List.take_length]at T1;exact q H1 k1 (cF H1 k1) T1
variable(dU:Cu mg "FINDINGS_MOST" (.int 20))
variable(gJ:bN P w K mg base true 2 "open_worths" ["first","second","terms","taken"] (r_ aQ))
variable(fW:bN P w K mg base true 7 "make_round" ["worths","terms"] (nV aQ aH))
variable(ij:bN P w K mg base true 1 "shut_pairs" ["worths","findings"] (sf aH))
variable(kc:bN P w K mg base true 1 "order_of" ["finding"] (rR aH))
variable(jM:Er K mg "TooMany" jG)
theorem iR:aJ ["first","second","terms","worths","findings","made"] ["first","second","terms"] (aq pT):=⟨rfl,rfl,rfl,by decide+kernel,rfl,by decide+kernel,by decide+kernel⟩
include T iQ dU gJ fW ij kc jM in
theorem Zs{f:Addr}{fd:FuncData}(F:jy K "compare" "compare" pT f fd):aZ P w K mg base (de P w) true 8 f fd ["first","second","terms"] (vJ aQ aH jG):=by
 refine F.gA iR XO (fun cc A outer s H vs Q E hr h hX=>?_)
 ·obtain⟨a,b,t,c,rfl,_⟩:=h;rfl
 ·obtain⟨a,b,t,c,rfl,ha,hb,TF,hx,hy,q1,q2⟩:=h;refine⟨_,(XG (Xp (3) iR.nd (Xq gJ aR (Xo (pv 0) (Xo (pv 1) (Xo (pv 2) (Xo jj ai)))))) (XG (Xp (4) iR.nd (@cf _ _ _ _ ai)) (XG (Xp (5) iR.nd (Xq fW aR (Xo (pv 3) (Xo (pv 2) ai)))) (XG (@rl _ _ _ _ _ _ hX.own (@a7 _ _ _ _ _ _ _ _ rn (Xu (aM K) (by exact rfl) T.eF PyProof.Rows.Boot.«len» (Xo (pv 5) ai)) af (aW _)) (XG (@aY _ _ _ _ (Xy K PySem.F.plainAttrs_list PySem.F.slot_list_extend PySem.F.type_list_extend uj (pv 4) (Xo (pv 5) ai)) (XW)) (XG (XI (@a7 _ _ _ _ _ _ _ _ rn (Xu (aM K) (by exact rfl) T.eF PyProof.Rows.Boot.«len» (Xo (pv 4) ai)) (@fm _ _ _ _ dU (XW) (XU)) (aW _)) (XB (@iF _ _ _ _ _ _ _ _ _ _ hX XS (by exact rfl) jM.m jM.e (Xo (@lA _ _ _ _ _ _ (@eZ _ _ _ _ _ dH (@eZ _ _ _ _ _ (@pz _ _ _ _ (@fm _ _ _ _ dU (XW) (XU))) (@eZ _ _ _ _ _ dH uZ)))) ai) (XU) (XW) (XW))) aT) (XG (@aY _ _ _ _ (Xq ij aR (Xo (pv 3) (Xo (pv 5) ai))) (XW)) (XB (Xp (5) iR.nd (Xq fW aR (Xo (pv 3) (Xo (pv 2) ai))))))))) (XB (@aO _ _ _ _ (@DX _ K _ _ _ _ _ _ _ _ _ _ _ kc (hr.mono (XU)) (pv 4) (by exact rfl) iQ (XW) (XU) (XW) (XW)))))))),?_⟩;have Y1:c.xs.length*c.ys.length≤3000:=Nat.le_trans (Nat.mul_le_mul hx hy) (XU);have Q9:=Je c [];refine⟨fun σ H1=>∃w as,σ=[some (.ref a),some (.ref b),some (.ref t),some (.ref w),none,none]∧ax H H1∧H1 w=some (.lst (as.map V.ref))∧iI H1 as (kx c []) c.xs.length c.ys.length∧as.Nodup∧w∉as∧∀a∈as,H a=none,?_,?_⟩
  ·exact⟨_,rfl,_,rfl,_,rfl,a,b,t, .cJ,c,[],rfl,ha,hb,TF, .inl ⟨rfl,rfl⟩,XX,XT,XT,fun H1 w as s1 h1 _ h3 h4 h5 h6=>⟨w,as,rfl,s1,h1,h3,h4,h5,h6⟩⟩
  rintro σ H1 ⟨w,as,rfl,s1,qH,Q_,Mz,nw,has⟩;refine⟨fun σ H2=>∃fl,σ=[some (.ref a),some (.ref b),some (.ref t),some (.ref w),some (.ref fl),none]∧ax H1 H2∧H1 fl=none∧H2 fl=some (.lst []),⟨aD XN,fun fl h=>⟨fl,rfl,ax.upd h,h,ae⟩⟩,?_⟩;rintro σ H2 ⟨fl,rfl,s2,J9,Nn⟩;have alloc:∀x∈as,∃xs,H1 x=some (.lst xs):=fun x hx=>by
   obtain⟨k,hk,ek⟩:=List.mem_iff_getElem.mp hx;exact⟨_,Q_.row k x (by rw[List.getElem?_eq_getElem hk,ek])⟩
  have Tg:fl∉as:=fun z=>by
   obtain⟨xs,h⟩:=alloc fl z;rw[J9]at h;cases h
  have Gk:w≠fl:=aA qH J9;have rd:∀f H3,(∀x∈as,∃xs,H3 x=some (.lst xs))→H3 w=some (.lst (as.map V.ref))→iI H3 as f c.xs.length c.ys.length→ax H H3→∀done,Reach (kx c []) c.out c.into c.least done f→∀(Q':VK)(E':XK),(∀H4 r,ax H3 H4→H3 r=none→∀us ds,H4 r=some (.lst us)→cw (fun b=>H3 b=none) H4 aH us ds→((us=[]∧ds=[]∧Stop f c.out c.into c.least)∨(us≠[]∧∃W gs,lJ f c.out c.into c.least W gs ds))→Q' (.ref r) H4)→nV aQ aH [.ref w, .ref t] H3 Q' E':=fun f H3 al h3 T3 s3 done RC Q' E' k=>by
   refine⟨w,t,as,c,f,_,_,rfl,h3,T3,TF.keep s3,RC.Qz Q9,Y1,XT,XT,fun st H4 r s4 h4 h5=>k H4 r s4 h4 [] [] h5 .nil (.inl ⟨rfl,rfl,st⟩),fun W gs ds R Q2 H4 r us s4 h4 h5 FL=>k H4 r s4 h4 us ds h5 FL (.inr ⟨fun z=>Q2 ?_,W,gs,R⟩)⟩;have:=FL.1;rw[z]at this;have:ds=[]:=List.length_eq_zero_iff.mp (by simpa using this.symm);rw[←R.F2,this];rfl
  have Th:∀b o,b∉as→b≠fl→H1 b=some o→H2 b=some o:=fun b o _ _ e=>s2 b o e
  have KY:=s1.trans s2;refine⟨fun σ H3=>∃md us ds,σ=[some (.ref a),some (.ref b),some (.ref t),some (.ref w),some (.ref fl),some (.ref md)]∧ax H2 H3∧H2 md=none∧H3 md=some (.lst us)∧cw (fun b=>H2 b=none) H3 aH us ds∧((us=[]∧ds=[]∧Stop (kx c []) c.out c.into c.least)∨(us≠[]∧∃W gs,lJ (kx c []) c.out c.into c.least W gs ds)),?_,?_⟩
  ·exact⟨_,rfl,_,rfl,rd _ H2 (fun x hx=>let ⟨xs,h⟩:=alloc x hx;⟨xs,s2 _ _ h⟩) (s2 _ _ qH) (Q_.same s2) KY [] .start _ _ fun H4 r s4 h4 us ds h5 FL z=>⟨r,us,ds,rfl,s4,h4,h5,FL,z⟩⟩
  rintro σ H3 ⟨md,us,ds,rfl,s3,Gm,Ra,Wh,Z3⟩;refine⟨fun σ H5=>∃md ul es f,σ=[some (.ref a),some (.ref b),some (.ref t),some (.ref w),some (.ref fl),some (.ref md)]∧ax H H5∧H5 fl=some (.lst ul)∧cw (fun b=>H2 b=none) H5 aH ul es∧Reach (kx c []) c.out c.into c.least es f∧Stop f c.out c.into c.least∧es.length≤20,?_,?_⟩
  ·refine⟨fun mm σ H4=>∃md us ds ul es f,mm+es.length=20∧σ=[some (.ref a),some (.ref b),some (.ref t),some (.ref w),some (.ref fl),some (.ref md)]∧ax H H4∧(∀b o,b∉as→b≠fl→H2 b=some o→H4 b=some o)∧iI H4 as f c.xs.length c.ys.length∧H4 fl=some (.lst ul)∧cw (fun b=>H2 b=none) H4 aH ul es∧Reach (kx c []) c.out c.into c.least es f∧H2 md=none∧H4 md=some (.lst us)∧cw (fun b=>H2 b=none) H4 aH us ds∧((us=[]∧ds=[]∧Stop f c.out c.into c.least)∨(us≠[]∧∃W gs,lJ f c.out c.into c.least W gs ds)),⟨20,md,us,ds,[],[],kx c [],rfl,rfl,KY.trans s3,fun b o _ _ e=>s3 b o e,(Q_.same s2).same s3,s3 _ _ Nn, .nil, .start,Gm,Ra,Wh,Z3⟩,?_⟩;rintro mm σ H4 ⟨md,us,ds,ul,es,f1,Xh,rfl,sH,k4,T4,Gp,FE,RC,Gm,J_,FD,Z4⟩;have Wi:∀x∈as,∃xs,H2 x=some (.lst xs):=fun x hx=>let ⟨xs,h⟩:=alloc x hx;⟨xs,s2 _ _ h⟩
   have P2:∀{b},H2 b=none→b∉as:=fun{b} h z=>by
    obtain⟨xs,h'⟩:=Wi b z;rw[h]at h';cases h'
   have Rb:∀{b},H2 b=none→b≠fl:=fun{b} h z=>by rw[z,Nn]at h;cases h
   have OG:=FE.1;have Xi:=FD.1;refine⟨_,rfl,md,_,rfl, .inl (.of J_),_,_,rfl,rfl,_,rfl,?_⟩;refine bj (fun hh=>?_) (fun hh=>?_)
   ·have hh:0<us.length:=by simpa using hh
    rcases Z4 with⟨z1,_,_⟩|⟨Ti,W,gs,R⟩
    ·rw[z1]at hh;simp at hh
    have Om:ds.length≤c.xs.length*c.ys.length:=by
     have:=R.told.XY (n:=c.xs.length) (m:=c.ys.length) fun g hg q hq=>by
      obtain⟨ps,wp,hm⟩:=(R.told.mem hg hq).on;exact jm (RC.Qz Q9) wp.1 hm
     rw[←R.F2,List.length_map]at this;exact this
    refine⟨_,fun bA H' z=>z,?_⟩;have Wj:md≠fl:=Rb Gm;refine⟨fun σ H5=>σ=[some (.ref a),some (.ref b),some (.ref t),some (.ref w),some (.ref fl),some (.ref md)]∧H5=upd H4 fl (.lst (ul++us)),⟨_,rfl, .inl ⟨rfl,_, .of Gp⟩,_,rfl,fl,md,ul,us,rfl,rfl,Gp,J_,aD XQ,rfl,rfl⟩,?_⟩;rintro σ H5 ⟨rfl,rfl⟩;have Tj:ax H (upd H4 fl (.lst (ul++us))):=sH.e6 (s1.free J9);have Tn:fg H4 (upd H4 fl (.lst (ul++us))):=fg.lst Gp;have Wl:cw (fun b=>H2 b=none) (upd H4 fl (.lst (ul++us))) aH ul es:=FE.keep (fun b o hb e=>by rw[aj (Rb hb)];exact e) Tn fun _ h=>h
    have To:cw (fun b=>H2 b=none) (upd H4 fl (.lst (ul++us))) aH us ds:=FD.keep (fun b o hb e=>by rw[aj (Rb hb)];exact e) Tn fun _ h=>h
    have Rg:=RC.round R;refine⟨fun σ H6=>σ=[some (.ref a),some (.ref b),some (.ref t),some (.ref w),some (.ref fl),some (.ref md)]∧H6=upd H4 fl (.lst (ul++us))∧(es++ds).length≤20,?_,?_⟩
    ·refine⟨_,rfl,fl,_,rfl, .inl (.of ae),_,_,rfl,rfl,_,rfl,?_⟩;refine bj (fun h9=>?_) (fun h9=>?_)
     ·have h9:20<(ul++us).length:=by
       have:(20:Int)<((ul++us).length:Nat):=by simpa using h9
       omega
      have:=q2 _ _ Rg (by rw[List.length_append]at h9⊢;omega) _ Tj;have z:(20:Int).natAbs.log2<1920∧(Str.ofString (toString (20:Int))).length≤6:=⟨XU,by decide+kernel⟩
      have w1:(Str.ofString "there are at most ").length=18:=by decide+kernel
      have w2:(Str.ofString " findings between two books").length=27:=by decide+kernel
      have w3:=lC;refine⟨_,rfl,aD ?_, .inr ⟨20,rfl,z.1,_,rfl,aD ?_,_,rfl,aD ?_,aD ?_,gN,this⟩⟩;all_goals (simp only[len_app];omega)
     ·have h9:¬20<(ul++us).length:=by
       have:¬(20:Int)<((ul++us).length:Nat):=by simpa using h9
       omega
      exact⟨rfl,rfl,by rw[List.length_append]at h9⊢;omega⟩
    rintro σ H6 ⟨rfl,rfl,hle⟩;refine⟨fun σ H7=>σ=[some (.ref a),some (.ref b),some (.ref t),some (.ref w),some (.ref fl),some (.ref md)]∧(∀b o,b∉as→upd H4 fl (.lst (ul++us)) b=some o→H7 b=some o)∧fg (upd H4 fl (.lst (ul++us))) H7∧iI H7 as (kq f1 gs.flatten) c.xs.length c.ys.length,?_,?_⟩
    ·refine⟨_,rfl,_,rfl,w,md,as,us,ds,f1,_,_,rfl,by rw[aj Gk];exact k4 _ _ nw Gk (s2 _ _ qH),Mz,nw,⟨T4.len,fun i x hx=>by rw[aj (fun z=>Tg (by rw[←z];exact XF hx))];exact T4.row i x hx⟩,by rw[aj Wj];exact J_,P2 Gm,To.keep (fun _ _ _ h=>h) (fun _ _ h=>h) (fun _ h=>P2 h),fun d hd q hq=>?_,fun H7 k7 t7 T7=>⟨rfl,k7,t7,by rw[←R.F2];exact T7⟩⟩;have hg:d.pairs∈gs:=by rw[←R.F2];exact List.mem_map.mpr ⟨d,hd,rfl⟩
     obtain⟨ps,wp,hm⟩:=(R.told.mem hg hq).on;exact jm (RC.Qz Q9) wp.1 hm
    rintro σ H7 ⟨rfl,k7,t7,T7⟩;have Tp:ax H H7:=fun b o e=>k7 b o (fun z=>by rw[has b z]at e;cases e) (Tj b o e)
    have Tq:∀x∈as,∃xs,H7 x=some (.lst xs):=fun x hx=>by
     obtain⟨k,hk,ek⟩:=List.mem_iff_getElem.mp hx;exact⟨_,T7.row k x (by rw[List.getElem?_eq_getElem hk,ek])⟩
    have w7:H7 w=some (.lst (as.map V.ref)):=k7 w _ nw (by rw[aj Gk];exact k4 _ _ nw Gk (s2 _ _ qH));have F7:cw (fun b=>H2 b=none) H7 aH (ul++us) (es++ds):=(Wl.append To).keep (fun b o hb e=>k7 b o (P2 hb) e) t7 fun _ h=>h
    have Tr:H7 fl=some (.lst (ul++us)):=k7 fl _ Tg ae;refine⟨_,rfl,_,rfl,rd _ H7 Tq w7 T7 Tp _ Rg _ _ fun H8 r s8 h8 Wm Wn Wo Wq Z8=>?_⟩;have Ts:∀b,H7 b=none→H2 b=none:=fun b h=>by
     cases e:H2 b with
     |none=>rfl
     |some o=>
      by_cases Rh:b∈as
      ·obtain⟨xs,h'⟩:=Tq b Rh;rw[h]at h';cases h'
      ·by_cases Ri:b=fl
       ·rw[Ri,Tr]at h;cases h
       ·rw[k7 b o Rh (by rw[aj Ri];exact k4 b o Rh Ri e)]at h;cases h
    refine⟨20-(es++ds).length,?_,r,Wm,Wn,ul++us,es++ds,_,XT,rfl,Tp.trans s8,fun b o h1 h2 e=>s8 b o (k7 b o h1 (by rw[aj h2];exact k4 b o h1 h2 e)),T7.same s8,s8 _ _ Tr,F7.keep (fun b o _ e=>s8 b o e) (fg.same s8) fun _ h=>h,Rg,Ts r h8,Wo,Wq.keep (fun _ _ _ h=>h) (fun _ _ h=>h) fun b h=>Ts b h,Z8⟩;rw[List.length_append]at hle⊢;omega
   ·have hh:us.length=0:=by
     have:¬(0:Int)<(us.length:Nat):=by simpa using hh
     omega
    rcases Z4 with⟨_,_,z3⟩|⟨Ti,_⟩
    ·exact⟨md,ul,es,f1,rfl,sH,Gp,FE,RC,z3,XT⟩
    ·exact absurd (List.length_eq_zero_iff.mp hh) Ti
  rintro σ H5 ⟨md,ul,es,f1,rfl,sH,Rj,FE,RC,ST,hle⟩;have OG:=FE.1;have AP:=RC.apart;have Np:∀d∈es,lQ d.pairs∈d.pairs:=fun d hd=>by
   cases e:d.pairs with
   |nil=>exact absurd e (AP.tq d hd).2
   |cons a r=>simp[lQ]
  refine⟨_,rfl,fl,ul,es.map (fun d=>(-d.worth,lQ d.pairs)),rfl, .of Rj,by rw[List.length_map];omega,?_,XT,fun i v H6 hv s6=>?_,fun p H6 D hp hs s6 hD Ni=>?_⟩
  ·refine List.pairwise_map.mpr (List.Pairwise.imp_of_mem (fun{x y} hx hy Y1 e=>?_) AP.ap);have:=(Prod.mk.inj e).2;exact Y1 _ (Np x hx) (by rw[this];exact Np y hy)
  ·have hi:i<es.length:=by rw[←OG];exact(Xv hv).1
   have ei:es[i]?=some es[i]:=by simp[hi]
   have iJ:es[i]∈es:=List.getElem_mem hi;have eg:(es.map fun d=>(-d.worth,lQ d.pairs)).getD i (0,(0,0))=(-es[i].worth,lQ es[i].pairs):=by simp[hi]
   rw[eg];generalize es[i]=d at ei iJ;obtain⟨x,dy,wy,oZ,pr,rg,jF,e1,F⟩:=FE.2 i d ei;rw[hv]at e1;cases e1;exact⟨x,dy,wy,oZ,pr,d.worth,jF,d.pairs,rfl,s6 _ _ F.ob,s6 _ _ F.hp,F.pp.same s6,(AP.tq d iJ).2,fun H7 k t s7 hk ht=>⟨s7,k,t,rfl,hk,ht⟩⟩
  ·have nh:p.toList.Perm (List.range es.length):=by rw[←OG];exact hp
   have J':∀i∈p.toList,i<es.length:=fun i hi=>by simpa using nh.mem_iff.mp hi
   have dflt:Fd:=⟨0,[],[],[]⟩
   refine q1 (p.toList.map fun i=>es.getD i dflt) ⟨⟨es,f1,RC,ST,?_⟩,?_,?_⟩ _ D _ ((sH.trans s6).e6 (sH.free hD)) (sH.free hD) ae ?_
   ·have e1:(List.range es.length).map (fun i=>es.getD i dflt)=es:=by
     apply List.ext_getElem
     ·simp
     ·intro i h1 h2;simp[h2]
    have:=nh.map fun i=>es.getD i dflt
    rw[e1]at this;exact this
   ·rw[List.length_map,nh.length_eq,List.length_range];exact hle
   ·rw[List.pairwise_map,List.pairwise_iff_getElem];intro i j hi hj sX;have hsz:p.size=es.length:=by have:=nh.length_eq;simpa using this
    have:=hs i j sX (by rw[OG,←hsz];simpa using hj);have g1:gd p i=p.toList[i]:=by rw[DA];simp at hi;simp[hi]
    have g2:gd p j=p.toList[j]:=by rw[DA];simp at hj;simp[hj]
    rw[g1,g2]at this;have l1:=J' _ (List.getElem_mem hi);have l2:=J' _ (List.getElem_mem hj);generalize p.toList[i]=x at this l1;generalize p.toList[j]=y at this l2;unfold kl X' at this;unfold MS;simp only[List.getD_eq_getElem?_getD,List.getElem?_map,List.getElem?_eq_getElem l1,List.getElem?_eq_getElem l2,Option.map_some,Option.getD_some]at this⊢;by_cases ew:es[x].worth=es[y].worth
    ·rw[XH ew];rw[XH (by rw[ew])]at this;exact this
    ·rw[XE ew];rw[XE (fun z=>ew XQ)]at this;simp at this⊢;omega
   ·refine⟨XX,fun k d hk=>?_⟩;rw[List.getElem?_map]at hk;cases e:p.toList[k]? with
    |none=>rw[e]at hk;cases hk
    |some i=>
     rw[e]at hk;have hi:=J' i (XF e);have hd:es.getD i dflt=d:=by simpa using hk
     have ei:es[i]?=some d:=by rw[←hd];simp[hi]
     obtain⟨x,dy,wy,oZ,pr,rg,jF,e1,F⟩:=FE.2 i d ei;have nD:∀{b o},H5 b=some o→b≠D:=fun h z=>by rw[z,hD]at h;cases h
     refine⟨x,dy,wy,oZ,pr,rg,jF,?_,F.ob|>fun h=>⟨by rw[aj (nD h)];exact s6 _ _ h,by rw[aj (nD F.hw)];exact s6 _ _ F.hw,(F.pw.same s6).same (ax.upd Ni),by rw[aj (nD F.hr)];exact s6 _ _ F.hr,by rw[aj (nD F.hp)];exact s6 _ _ F.hp,(F.pp.same s6).same (ax.upd Ni),KY.free F.fa,KY.free F.fw,KY.free F.fr,KY.free F.fp⟩⟩;rw[List.getElem?_map,e];show some (ul.getD i .cJ)=_;simp[e1]
theorem Zo:aJ ["_law_script","_law_k"] ["_law_script","_law_k"] (aq pU):=⟨rfl,rfl,rfl,by decide+kernel,rfl,by decide+kernel,by decide+kernel⟩
include T in
theorem ZF{f:Addr}{fd:FuncData}(F:jy K "_law_at" "_law_at" pU f fd):aZ P w K mg base (de P w) true 1 f fd ["_law_script","_law_k"] (C9 K):=by
 refine F.gA Zo XO (fun cc A outer s H vs Q E hr h hX=>?_)
 ·obtain⟨a,ns,k,rfl,_⟩:=h;rfl
 ·obtain⟨a,ns,k,rfl,hS,h0,q⟩:=h;refine⟨_,(XA (XI (@a7 _ _ _ _ _ _ _ _ m_ (pv 1) (Xu (aM K) (by exact rfl) T.eF PyProof.Rows.Boot.«len» (Xo (pv 0) ai)) (aW _)) (XB (@aO _ _ _ _ (Xs (pv 0) (pv 1)))) aT) (XB (@aO _ _ _ _ af))),?_⟩;refine⟨_,rfl,_,rfl,a,_,rfl, .inl hS,_,_,rfl,rfl,_,rfl,?_⟩;refine bj (fun h=>?_) (fun h=>?_)
  ·have h:k<((ns.map V.int).length:Int):=by simpa using h
   rw[List.length_map]at h;exact⟨_,rfl,_,rfl,a,_,k,_,rfl,rfl,hS,Fl h0 h,q⟩
  ·have h:¬k<((ns.map V.int).length:Int):=by simpa using h
   rw[List.length_map]at h;rw[cell_out h0 h]at q;exact q
theorem tK:aJ ["_law_found"] ["_law_found"] (aq j6):=⟨rfl,rfl,rfl,by decide+kernel,rfl,by decide+kernel,by decide+kernel⟩
include T in
theorem tL{f:Addr}{fd:FuncData}(F:jy K "_law_whole" "_law_whole" j6 f fd):aZ P w K mg base (de P w) true 1 f fd ["_law_found"] rG:=by
 refine F.gA tK XO (fun cc A outer s H vs Q E hr h hX=>?_)
 ·obtain⟨i,rfl,_⟩:=h;rfl
 ·obtain⟨i,rfl,q⟩:=h;refine⟨_,(XB (@aO _ _ _ _ (@rk _ _ _ _ _ _ _ (Xu (jA K) (by exact rfl) T.fM PyProof.Rows.Boot.«isinstance» (Xo (pv 0) (Xo (@m7 _ _ (.ty "int") _ _ (by exact rfl) T.YK PyProof.Rows.Boot.«int» XS (XU) (XU)) ai))) (@o_ _ _ _ _ _ (@Ia _ _ _ _ (Xu (jA K) (by exact rfl) T.fM PyProof.Rows.Boot.«isinstance» (Xo (pv 0) (Xo (@m7 _ _ (.ty "bool") _ _ (by exact rfl) T.IW PyProof.Rows.Boot.«bool» XS (XU) (XU)) ai)))))))),?_⟩;refine⟨_,rfl,_,_,_,true,_,rfl,rfl, .int i,rfl,_,rfl,?_⟩;refine kI ?_;exact⟨_,rfl,_,_,_,false,_,rfl,rfl, .int i,by kernel_rfl,_,rfl,q⟩
theorem bB:aJ ["_law_cell","_law_other","_law_many","_law_letters","_law_stem","_law_rest","_law_k","_law_size","_law_found","_law_spot","_law_sign"] ["_law_cell","_law_other","_law_many"] (aq kR):=⟨rfl,rfl,rfl,by decide+kernel,rfl,by decide+kernel,by decide+kernel⟩
include T in
theorem vN{f:Addr}{fd:FuncData}(F:jy K "_law_bank" "_law_bank" kR f fd):aZ P w K mg base (de P w) true 1 f fd ["_law_cell","_law_other","_law_many"] vj:=by
 refine F.gA bB XO (fun cc A outer s H vs Q E hr h hX=>?_)
 ·obtain⟨cell,other,many,rfl,_⟩:=h;rfl
 ·obtain⟨cell,other,many,rfl,Rk,hm,q⟩:=h;have Xj:=Fo;have Tt:(0:Int)<26:=XU;have Tu:(0:Int)<12:=XU;refine⟨_,(XA (Xp (3) bB.nd dH) (XA (Xp (4) bB.nd dH) (XA (Xp (5) bB.nd (Xw dj (pv 0) af)) (XA (@bL _ _ _ _ _ _ _ _ hX.own XS (@eX _ _ _ _ _ _ (by exact rfl) T.fo (Xo af ai) (XW)) (Xr (6) bB.nd (Or.inl rfl)) (XA (Xp (4) bB.nd (Xw mi (pv 4) (@aB _ _ _ _ _ _ _ CL (pv 3) (Xw bG (pv 5) af) (fun _ _=>rfl)))) (XB (Xp (5) bB.nd (Xw dj (pv 5) af)))) (by intro _;rfl)) (XA (Xp (7) bB.nd (Xw bo af (Xw bG (Xw dj (pv 0) af) af))) (XA (Xp (8) bB.nd (@cf _ _ _ _ ai)) (XA (@bL _ _ _ _ _ _ _ _ hX.own XS (@eX _ _ _ _ _ _ (by exact rfl) T.fo (Xo (pv 2) ai) (XW)) (Xr (6) bB.nd (Or.inl rfl)) (XB (XI (@a7 _ _ _ _ _ _ _ _ iD (Xw bG (pv 0) af) af (aW _)) (XB (@aY _ _ _ _ (Xy K PySem.F.plainAttrs_list PySem.F.slot_list_append PySem.F.type_list_append bK (pv 8) (Xo (@kH _ _ _ _ _ _ _ _ _ _ YU (pv 4) uR (@jT _ _ _ (Xw bo af (Xw bG (Xw bo (pv 7) (pv 6)) af)))) ai)) (XW))) (XA (Xp (9) bB.nd (Xw bG (pv 1) (pv 7))) (XA (Xp (10) bB.nd (@aB _ _ _ _ _ _ _ CL (pv 3) (Xw bG (Xw bo (Xw dj (pv 1) af) (pv 6)) af) (fun _ _=>rfl))) (XB (@aY _ _ _ _ (Xy K PySem.F.plainAttrs_list PySem.F.slot_list_append PySem.F.type_list_append bK (pv 8) (Xo (Xw mi (Xw mi (@kH _ _ _ _ _ _ _ _ _ _ YU (pv 4) uR (@jT _ _ _ (pv 9))) (pv 10)) (@kH _ _ _ _ _ _ _ _ _ _ YU (pv 4) (@jT _ _ _ (Xw bo (pv 9) af)) (@jT _ _ _ (pv 7)))) ai)) (XW))))))) (by intro _;rfl)) (XB (@aO _ _ _ _ (pv 8)))))))))),?_⟩;refine⟨_,rfl,_,_,rfl,rfl,⟨XU,XU⟩,?_⟩;refine⟨12,rfl,XU,XU,?_⟩;refine eY (fun i σ H'=>H'=H∧∃(bM:Str)(rest:Int)(kv:Option V),bM.length=i∧lows bM∧σ=[some (.int cell),some (.int other),some (.int many),some (.str Me),some (.str bM),some (.int rest),kv,none,none,none,none]) ⟨rfl,_,_,_,(by decide+kernel),(show(Str.ofString "").cps.toList.all low=true by decide+kernel),rfl⟩ ?_ ?_
  ·rintro i σ H' hi ⟨rfl,bM,rest,kv,hl,Ka,rfl⟩;have hi:i<12:=hi;refine⟨_,rfl,_,rfl,_,rfl,_,_,rfl,rfl,Tt,_,_,_,rfl,rfl,aD XQ,Dh,_,_,rfl,rfl,aD (show bM.length+1≤100000 by omega),?_⟩;refine⟨_,rfl,_,_,rfl,rfl,⟨XU,XU⟩,rfl,_,_,_,?_,?_,rfl⟩
   ·rw[len_app,hl];rfl
   ·have h1:bM.cps.toList.all low=true:=Ka;have h2:=Ab rest;unfold lows;rw[nE,List.all_append,h1];simp[h2]
  ·rintro σ H' ⟨rfl,bM,rest,kv,hl,Ka,rfl⟩;have hl:bM.length=12:=hl;refine⟨_,rfl,_,_,rfl,rfl,⟨XU,XU⟩,_,_,rfl,rfl,Tu,_,_,rfl,rfl,?_⟩;have z0:1≤1+cell/2%12∧1+cell/2%12≤12:=XT;refine⟨aD XN,fun D hD=>?_⟩;refine⟨_,rfl,many,rfl,XT,XT,?_⟩;refine eY (fun i σ H2=>(∃u v w,σ=[some (.int cell),some (.int other),some (.int many),some (.str Me),some (.str bM),some (.int rest),u,some (.int (1+cell/2%12)),some (.ref D),v,w])∧H2 D=some (.lst (((List.range i).map (jB bM cell other)).map V.str))∧ax H' H2) ⟨⟨_,_,_,rfl⟩,ae,ax.upd hD⟩ ?_ ?_
   ·rintro i σ H2 hi ⟨⟨u,v,w,rfl⟩,jI,s2⟩;have hi:i<12:=XT;have nx:∀z,z=jB bM cell other i→(List.range i).map (fun k=>V.str (jB bM cell other k))++[V.str z]=((List.range (i+1)).map (jB bM cell other)).map V.str:=fun z e=>by
     rw[List.range_succ,e];simp
    have gK:(((List.range i).map (jB bM cell other)).map V.str).length<sizeLine:=a_ (by simp;omega);refine⟨_,rfl,_,_,rfl,rfl,(show(0:Int)<2 by decide),rfl,_,rfl,?_⟩;refine bj (fun h=>?_) (fun h=>?_)
    ·have h:cell%2=1:=by simpa using h
     refine⟨_,rfl, .inl ⟨rfl,_, .of jI⟩,_,rfl,_,rfl,_,rfl,_,_,rfl,rfl,_,_,rfl,rfl,Tu,_,_,rfl,rfl,_,rfl,bM,rfl,aD XQ,D,_,_,rfl,rfl,jI,gK,⟨_,_,_,rfl⟩,?_,s2.e6 hD⟩;rw[ae];have:=nx (Txt.slice bM none (some (1+(1+cell/2%12+(0+(i:Int)))%12))) (by simp[jB,h]);rw[←this];simp
    ·have h:¬cell%2=1:=by simpa using h
     have z1:0≤other%(1+cell/2%12)∧other%(1+cell/2%12)<1+cell/2%12:=⟨Int.emod_nonneg _ (XT),Int.emod_lt_of_pos _ (XT)⟩
     have b1:=ur bM none (some (other%(1+cell/2%12)));have b2:=ur bM (some (other%(1+cell/2%12)+1)) (some (1+cell/2%12));refine⟨_,rfl,_,rfl,_,_,rfl,rfl,(show(0:Int)<1+cell/2%12 by omega),?_⟩;refine⟨_,rfl,_,rfl,_,_,rfl,rfl,⟨XU,XU⟩,_,rfl,_,_,rfl,rfl,_,_,rfl,rfl,Tt,_,_,_,rfl,rfl,aD XQ,Dh,?_⟩;refine⟨_,rfl, .inl ⟨rfl,_, .of jI⟩,_,rfl,_,rfl,_,rfl,bM,rfl,aD XQ,_,rfl,_,_,rfl,rfl,aD (show(Txt.slice bM none (some (other%(1+cell/2%12)))).length+1≤100000 by omega),_,rfl,_,rfl,_,_,rfl,rfl,_,rfl,_,rfl,_,rfl,bM,rfl,aD XQ,_,_,rfl,rfl,?_,D,_,_,rfl,rfl,jI,gK,⟨_,_,_,rfl⟩,?_,s2.e6 hD⟩
     ·rw[len_app];exact aD (show(Txt.slice bM none (some (other%(1+cell/2%12)))).length+1+_≤100000 by omega)
     rw[ae];have:=nx (Txt.slice bM none (some (other%(1+cell/2%12)))++⟨#[97+((other/12+(0+(i:Int)))%26).toNat]⟩++Txt.slice bM (some (other%(1+cell/2%12)+1)) (some (1+cell/2%12))) (by simp[jB,h]);rw[←this];simp
   ·rintro σ H2 ⟨⟨u,v,w,rfl⟩,jI,s2⟩;refine⟨_,rfl,q H2 D _ s2 hD jI XN ?_ (ZL hl cell other (XT))⟩;intro z hz;obtain⟨k,_,rfl⟩:=List.mem_map.mp hz;exact Dk hl Ka cell other k
variable(aX:bN P w K mg base true 1 "_law_at" ["_law_script","_law_k"] (C9 K))
theorem fX:aJ ["_law_script","_law_cell","_law_spot","_law_many","_law_bank_here","_law_book_here","_law_rest","_law_k"] ["_law_script","_law_cell","_law_spot","_law_many","_law_bank_here"] (aq kT):=⟨rfl,rfl,rfl,by decide+kernel,rfl,by decide+kernel,by decide+kernel⟩
include T aX in
theorem vO{f:Addr}{fd:FuncData}(F:jy K "_law_book" "_law_book" kT f fd):aZ P w K mg base (de P w) true 2 f fd ["_law_script","_law_cell","_law_spot","_law_many","_law_bank_here"] (vm K):=by
 refine F.gA fX XO (fun cc A outer s H vs Q E hr h hX=>?_)
 ·obtain⟨a,b,ns,zs,c,p,m,rfl,_⟩:=h;rfl
 ·obtain⟨a,b,ns,zs,c,p,m,rfl,hS,hb,⟨Wr,Mc⟩,Ws,Rk,AL,q⟩:=h;refine⟨_,(XA (Xp (5) fX.nd (@cf _ _ _ _ ai)) (XA (Xp (6) fX.nd (pv 1)) (XA (@bL _ _ _ _ _ _ _ _ hX.own XS (@eX _ _ _ _ _ _ (by exact rfl) T.fo (Xo (pv 3) ai) (XW)) (Xr (7) fX.nd (Or.inl rfl)) (XA (@aY _ _ _ _ (Xy K PySem.F.plainAttrs_list PySem.F.slot_list_append PySem.F.type_list_append bK (pv 5) (Xo (Xs (pv 4) (Xw bG (Xw bo (Xw bo (pv 6) (pv 7)) (Xq aX aR (Xo (pv 0) (Xo (Xw bo (pv 2) (pv 7)) ai)))) (Xu (aM K) (by exact rfl) T.eF PyProof.Rows.Boot.«len» (Xo (pv 4) ai)))) ai)) (XW)) (XB (Xp (6) fX.nd (Xw dj (pv 6) (Xu (aM K) (by exact rfl) T.eF PyProof.Rows.Boot.«len» (Xo (pv 4) ai)))))) (by intro _;rfl)) (XB (@aO _ _ _ _ (pv 5)))))),?_⟩;refine⟨aD XN,fun l hl=>?_⟩;refine⟨_,rfl,?_⟩;refine⟨_,rfl,m,rfl,XT,XT,?_⟩;refine eY (fun i σ H'=>(∃r u,σ=[some (.ref a),some (.int c),some (.int p),some (.int m),some (.ref b),some (.ref l),some (.int r),u])∧ax H H'∧∃ws:List Str,H' l=some (.lst (ws.map V.str))∧ws.length=i∧∀w∈ws,w∈zs) ⟨⟨_,_,rfl⟩,ax.upd hl,[],ae,rfl,fun w hw=>by cases hw⟩ ?_ ?_
  ·rintro i σ H' hi ⟨⟨r,u,rfl⟩,s1,ws,kr,qH,Es⟩;have hi:i<m.toNat:=hi;have g7:=s1 _ _ hb;have z0:0≤(r+(0+(i:Int))+cell ns (p+(0+(i:Int))))%(zs.length:Int):=Int.emod_nonneg _ (XT);have z1:(r+(0+(i:Int))+cell ns (p+(0+(i:Int))))%(zs.length:Int)<(zs.length:Int):=Int.emod_lt_of_pos _ (XT);obtain⟨w,hw,BR⟩:=YZ zs z0 z1;have el:(zs.map V.str).length=zs.length:=List.length_map ..;refine⟨_,rfl, .inl ⟨rfl,_, .of kr⟩,_,rfl,_,rfl,_,rfl,_,_,rfl,rfl,_,rfl,_,rfl,_,rfl,_,_,rfl,rfl,a,ns,_,rfl,s1.seq hS,XT,_,_,rfl,rfl,_,rfl,b,_,rfl, .inl (.of g7),_,_,rfl,rfl,(by rw[el];show(0:Int)<_;omega),b,_,_,_,rfl,rfl, .of g7,(by rw[el];exact BR),l,_,_,rfl,rfl,kr,a_ (by rw[List.length_map];omega),?_⟩;have Ga:b≠l:=aA hb hl;have X4:upd H' l (.lst (ws.map V.str++[.str w])) b=some (.lst (zs.map V.str)):=by rw[aj Ga];exact g7
   refine⟨_,rfl,_,rfl,b,_,rfl, .inl (.of X4),_,_,rfl,rfl,⟨by rw[el];omega,by rw[el];omega⟩,⟨_,_,rfl⟩,s1.e6 hl,ws++[w],?_,by simp[qH],?_⟩
   ·rw[ae];simp
   ·intro x hx;rcases List.mem_append.mp hx with hx|hx
    ·exact Es x hx
    ·have:x=w:=by simpa using hx
     rw[this];exact hw
  ·rintro σ H' ⟨⟨r,u,rfl⟩,s1,ws,kr,qH,Es⟩;exact⟨_,rfl,q H' l ws s1 hl kr qH Es⟩
theorem b_:aJ ["_law_script","_law_cell","_law_spot","_law_many","_law_first","_law_bank_here","_law_book_here","_law_rest","_law_place","_law_k","_law_pick"] ["_law_script","_law_cell","_law_spot","_law_many","_law_first","_law_bank_here"] (aq h_):=⟨rfl,rfl,rfl,by decide+kernel,rfl,by decide+kernel,by decide+kernel⟩
include T aX in
theorem tM{f:Addr}{fd:FuncData}(F:jy K "_law_quote" "_law_quote" h_ f fd):aZ P w K mg base (de P w) true 2 f fd ["_law_script","_law_cell","_law_spot","_law_many","_law_first","_law_bank_here"] (rK K):=by
 refine F.gA b_ XO (fun cc A outer s H vs Q E hr h hX=>?_)
 ·obtain⟨a,b,x,ns,zs,Kb,c,p,m,rfl,_⟩:=h;rfl
 ·obtain⟨a,b,x,ns,zs,Kb,c,p,m,rfl,hS,hb,hx,⟨Wr,Mc⟩,X7,Rl,Ws,Rk,AL,q⟩:=h;have hu:=hr.units;have M8:(A.deeper (PyProof.Rows.envOfC "_law_quote" (aq h_) s.heap.objs.size f cc)).units<cLine:=XT;have c8:(0:Int)<8:=XU;refine⟨_,(XA (Xp (6) b_.nd (@cf _ _ _ _ ai)) (XA (Xp (7) b_.nd (pv 1)) (XA (Xp (8) b_.nd af) (XA (@bL _ _ _ _ _ _ _ _ hX.own XS (@eX _ _ _ _ _ _ (by exact rfl) T.fo (Xo (pv 3) ai) (XW)) (Xr (9) b_.nd (Or.inl rfl)) (XA (Xp (10) b_.nd (Xw bo (pv 7) (Xq aX aR (Xo (pv 0) (Xo (Xw bo (pv 2) (pv 9)) ai))))) (XA (Xp (7) b_.nd (Xw dj (pv 7) (Xw mh af (Xu (aM K) (by exact rfl) T.eF PyProof.Rows.Boot.«len» (Xo (pv 5) ai))))) (XB (XI (@PW.pt _ _ _ (@pw_and _ _ _ _ _ _ _ (@a7 _ _ _ _ _ _ _ _ m_ (Xw bG (pv 10) af) af (aW _)) (@pw_and1 _ _ _ _ (@a7 _ _ _ _ _ _ _ _ (Zq K M8) (pv 4) (@cf _ _ _ _ ai) (aW _))))) (XA (Xp (8) b_.nd (Xw bo (pv 8) (@gk _ _ _ _ _ _ _ _ _ ph XS T.YK PyProof.Rows.Boot.«int» (Xo (@fj _ _ _ _ _ _ _ _ iD (Xw bG (pv 10) af) af (aW _)) ai) (XU) (XU) (XW) (XW)))) (XA (@aY _ _ _ _ (Xy K PySem.F.plainAttrs_list PySem.F.slot_list_append PySem.F.type_list_append bK (pv 6) (Xo (Xs (pv 4) (Xw bG (pv 8) (Xu (aM K) (by exact rfl) T.eF PyProof.Rows.Boot.«len» (Xo (pv 4) ai)))) ai)) (XW)) (XB (Xp (8) b_.nd (Xw bo (pv 8) af))))) (XB (@aY _ _ _ _ (Xy K PySem.F.plainAttrs_list PySem.F.slot_list_append PySem.F.type_list_append bK (pv 6) (Xo (Xs (pv 5) (Xw bG (Xw dj (pv 10) af) (Xu (aM K) (by exact rfl) T.eF PyProof.Rows.Boot.«len» (Xo (pv 5) ai)))) ai)) (XW))))))) (by intro _;rfl)) (XB (@aO _ _ _ _ (pv 6))))))),?_⟩;refine⟨aD XN,fun l hl=>?_⟩;refine⟨_,rfl,?_⟩;refine⟨_,rfl,m,rfl,XT,XT,?_⟩;refine eY (fun i σ H'=>(∃(r pl:Int)(u1 u2:Option V),σ=[some (.ref a),some (.int c),some (.int p),some (.int m),some (.ref x),some (.ref b),some (.ref l),some (.int r),some (.int pl),u1,u2])∧ax H H'∧∃ws:List Str,H' l=some (.lst (ws.map V.str))∧ws.length=i∧∀w∈ws,w∈zs) ⟨⟨_,_,_,_,rfl⟩,ax.upd hl,[],ae,rfl,fun w hw=>by cases hw⟩ ?_ ?_
  ·rintro i σ H' hi ⟨⟨r,pl,u1,u2,rfl⟩,s1,ws,kr,qH,Es⟩;have hi:i<m.toNat:=hi;have g7:=s1 _ _ hb;have kP:=s1 _ _ hx;have el:(zs.map V.str).length=zs.length:=List.length_map ..;have Tv:(Kb.map V.str).length=Kb.length:=List.length_map ..;have gK:(ws.map V.str).length<sizeLine:=a_ (by rw[List.length_map];omega);refine⟨_,rfl,_,rfl,_,rfl,_,rfl,_,_,rfl,rfl,a,ns,_,rfl,s1.seq hS,XT,_,_,rfl,rfl,?_⟩;refine⟨_,rfl,_,rfl,b,_,rfl, .inl (.of g7),_,_,rfl,rfl, .inl (XU),_,_,rfl,rfl,⟨by rw[el];omega,by rw[el];omega⟩,?_⟩;have fin:∀H3 (w:Str),ax H H3→H3 l=some (.lst (ws.map V.str))→w∈zs→ax H (upd H3 l (.lst (ws.map V.str++[.str w])))∧∃Ro:List Str,upd H3 l (.lst (ws.map V.str++[.str w])) l=some (.lst (Ro.map V.str))∧Ro.length=i+1∧∀w∈Ro,w∈zs:=fun H3 w s3 h3 hw=>by
    refine⟨s3.e6 hl,ws++[w],by rw[ae];simp,by simp[qH],fun x hx=>?_⟩;rcases List.mem_append.mp hx with hx|hx
    ·exact Es x hx
    ·have:x=w:=by simpa using hx
     rw[this];exact hw
   have other:∀H3,ax H H3→H3 l=some (.lst (ws.map V.str))→H3 b=some (.lst (zs.map V.str))→∃w,w∈zs∧qV (zs.map V.str) ((r+cell ns (p+(0+(i:Int))))/8%((zs.map V.str).length:Int))=some (.str w):=fun H3 _ _ _=>by
    rw[el];exact YZ zs (Int.emod_nonneg _ (XT)) (Int.emod_lt_of_pos _ (XT))
   refine⟨_,rfl,_,_,rfl,rfl,c8,_,_,rfl,rfl,_,rfl,?_⟩;refine bj (fun h1=>?_) (fun h1=>?_)
   ·refine⟨_,rfl,aD XN,fun pn KZ=>⟨x,pn,_,rfl,rfl, .of (ax.upd KZ _ _ kP), .of ae,_,rfl,?_⟩⟩;have s2:ax H (upd H' pn (.lst [])):=s1.trans (ax.upd KZ);have uk:=ax.upd (o:= .lst []) KZ _ _ kr;refine bj (fun h2=>?_) (fun h2=>?_)
    ·have d6:Kb≠[]:=by simpa using h2
     have Nq:0<Kb.length:=List.length_pos_iff.mpr d6;obtain⟨w,hw,BR⟩:=YZ Kb (i:=(pl+(if decide ((r+cell ns (p+(0+(i:Int))))%8=4)=true then 1 else 0))%((Kb.length:Nat):Int)) (Int.emod_nonneg _ (XT)) (Int.emod_lt_of_pos _ (XT));obtain⟨a1,a2⟩:=fin _ w s2 uk (Rl w hw);refine⟨_,rfl,_,rfl,_,_,rfl,rfl,c8,rfl, .inr ⟨_,rfl,_,_,rfl,rfl,?_⟩⟩;refine⟨_,rfl, .inl ⟨rfl,_, .of uk⟩,_,rfl,_,rfl,_,rfl,x,_,rfl, .inl (.of (s2 _ _ hx)),_,_,rfl,rfl,(by rw[Tv];show(0:Int)<_;omega),x,_,_,_,rfl,rfl, .of (s2 _ _ hx),by rw[Tv];simpa[beq_iff_eq,uV]using BR,l,_,_,rfl,rfl,uk,gK,?_⟩;exact⟨_,rfl,_,_,rfl,rfl,⟨_,_,_,_,rfl⟩,a1,a2⟩
    ·obtain⟨w,hw,BR⟩:=other _ s2 uk (s2 _ _ hb);obtain⟨a1,a2⟩:=fin _ w s2 uk hw;refine⟨_,rfl, .inl ⟨rfl,_, .of uk⟩,_,rfl,_,rfl,_,_,rfl,rfl,⟨XU,XU⟩,_,rfl,b,_,rfl, .inl (.of (s2 _ _ hb)),_,_,rfl,rfl,(by rw[el];show(0:Int)<_;omega),b,_,_,_,rfl,rfl, .of (s2 _ _ hb),BR,l,_,_,rfl,rfl,uk,gK,⟨_,_,_,_,rfl⟩,a1,a2⟩
   ·refine jU ?_;obtain⟨w,hw,BR⟩:=other _ s1 kr g7;obtain⟨a1,a2⟩:=fin _ w s1 kr hw;refine⟨_,rfl, .inl ⟨rfl,_, .of kr⟩,_,rfl,_,rfl,_,_,rfl,rfl,⟨XU,XU⟩,_,rfl,b,_,rfl, .inl (.of g7),_,_,rfl,rfl,(by rw[el];show(0:Int)<_;omega),b,_,_,_,rfl,rfl, .of g7,BR,l,_,_,rfl,rfl,kr,gK,⟨_,_,_,_,rfl⟩,a1,a2⟩
  ·rintro σ H' ⟨⟨r,pl,u1,u2,rfl⟩,s1,ws,kr,qH,Es⟩;exact⟨_,rfl,q H' l ws s1 hl kr qH Es⟩
theorem dW:aJ ["_law_script","_law_spot","_law_pick","_law_same","_law_most"] ["_law_script","_law_spot"] (aq fT):=⟨rfl,rfl,rfl,by decide+kernel,rfl,by decide+kernel,by decide+kernel⟩
include T aX in
theorem qL{f:Addr}{fd:FuncData}(F:jy K "_law_numbers" "_law_numbers" fT f fd):aZ P w K mg base (de P w) true 2 f fd ["_law_script","_law_spot"] (mw K):=by
 refine F.gA dW XO (fun cc A outer s H vs Q E hr h hX=>?_)
 ·obtain⟨a,ns,k,rfl,_⟩:=h;rfl
 ·obtain⟨a,ns,k,rfl,hS,h0,q⟩:=h;have c2:(0:Int)<2:=XU;have c4:(0:Int)<4:=XU;have c6:(0:Int)<6:=XU;have cM:(0:Int)<1000000:=XU;have Tw:∀i:Int,Ik i 4:=fun i=>⟨XU,XU⟩
  have Wt:∀i:Int,Ik i 8:=fun i=>⟨XU,XU⟩
  refine⟨_,(XA (@nz _ _ _ _ _ _ _ _ _ _ _ _ _ _ _ (2) _ _ (by exact rfl) dW.nd XS (by exact rfl) (show br ["_law_script","_law_spot","_law_pick","_law_same","_law_most"] (aq fT) _ ["_law_k"] [0,1] ["_law_script","_law_spot"]from⟨rfl,by decide+kernel,by decide+kernel,by decide+kernel,rfl,rfl,by decide+kernel,by decide+kernel,by decide+kernel⟩) (@eX _ _ _ _ _ _ (by exact rfl) T.fo (Xo af ai) (XW)) (fun _ _ _ _ _=>(Xr (0) (show(["_law_k","_law_script","_law_spot"]:List Str).Nodup by decide+kernel) (Or.inl rfl))) (fun _ _ _ _ _=>hG) (fun _ _ _ _ _=>(Xq aX aR (Xo (pv 1) (Xo (Xw bo (pv 2) (pv 0)) ai)))) (XW) (by intro _;rfl)) (XA (XI (@a7 _ _ _ _ _ _ _ _ m_ (Xw bG (Xs (pv 2) af) af) af (aW _)) (XA (Xp (3) dW.nd (Xw bo af (Xw bG (Xw dj (Xs (pv 2) af) af) af))) (XB (@aO _ _ _ _ (@cf _ _ _ _ (Xo (pv 3) (Xo (Xw bG (Xs (pv 2) af) af) (Xo (Xw bG (Xs (pv 2) af) af) (Xo (Xw bo af (Xw bG (Xs (pv 2) af) (Xw mh af (pv 3)))) ai)))))))) aT) (XA (Xp (3) dW.nd (Xw bo af (Xw bG (Xw dj (Xs (pv 2) af) af) af))) (XA (Xp (4) dW.nd (Xs (@cf _ _ _ _ (Xo (Xu (pe rfl) (by exact rfl) T.C8 PyProof.Rows.Boot.«min» (Xo af (Xo (Xw mh af (pv 3)) ai))) (Xo af ai))) (Xw bG (Xw dj (Xs (pv 2) af) af) af))) (XB (@aO _ _ _ _ (@cf _ _ _ _ (Xo (pv 3) (Xo (Xw bG (Xs (pv 2) af) af) (Xo (Xw bG (Xs (pv 2) af) af) (Xo (Xw bo af (Xw bG (Xs (pv 2) af) (pv 4))) ai))))))))))),?_⟩;refine⟨4,rfl,XU,XU,fun D hD=>?_⟩;refine Zp (fun i ys bA H'=>(∃u,bA=[u,some (.ref a),some (.int k)])∧∃is:List Int,ys=is.map V.int∧is.length=i∧H' D=some (.lst ys)∧ax H H') ⟨⟨_,rfl⟩,[],rfl,rfl,ae,ax.upd hD⟩ ?_ ?_
  ·rintro i ys bA H' hi ⟨⟨u,rfl⟩,is,rfl,hl,Wu,s1⟩;have hi:i<4:=hi;refine pA ?_;exact⟨_,rfl,_,rfl,_,rfl,_,_,rfl,rfl,a,ns,_,rfl,s1.seq hS,by lia,Wu,a_ (by rw[List.length_map];lia),⟨_,rfl⟩,is++[cell ns (k+(0+(i:Int)))],XX,by simp[hl],ae,s1.e6 hD⟩
  ·rintro ys bA H1 ⟨_,is,rfl,hl,qG,s1⟩;obtain⟨p0,p1,p2,p3,rfl⟩:=Fs hl;refine⟨_,rfl,D,_,0,_,rfl,rfl, .of qG,av (j:=0) rfl,_,_,rfl,rfl,c4,_,_,rfl,rfl,_,rfl,?_⟩;refine bj (fun _=>?_) (fun _=>?_)
   ·refine⟨_,rfl,D,_,0,_,rfl,rfl, .of qG,av (j:=0) rfl,_,_,rfl,rfl,Tw _,_,_,rfl,rfl,c6,_,_,rfl,rfl,?_⟩;have z0:1≤1+p0/4%6∧1+p0/4%6≤6:=by lia
    have z3:0≤p3%(3*(1+p0/4%6)):=Int.emod_nonneg _ (by lia);have z4:p3%(3*(1+p0/4%6))<3*(1+p0/4%6):=Int.emod_lt_of_pos _ (by lia);exact⟨_,rfl,_,rfl,D,_,1,_,rfl,rfl, .of qG,av (j:=1) rfl,_,_,rfl,rfl,c4,_,rfl,D,_,2,_,rfl,rfl, .of qG,av (j:=2) rfl,_,_,rfl,rfl,c4,_,rfl,D,_,3,_,rfl,rfl, .of qG,av (j:=3) rfl,_,rfl,_,_,rfl,rfl, .inl (XU),_,_,rfl,rfl,(show(0:Int)<3*(1+p0/4%6) by lia),_,_,rfl,rfl,aD XN,fun p hp=>q _ p _ _ _ _ (s1.trans (ax.upd hp)) (s1.free hp) ae XR (by lia) (by lia) (by lia)⟩
   ·refine⟨_,rfl,D,_,0,_,rfl,rfl, .of qG,av (j:=0) rfl,_,_,rfl,rfl,Wt _,_,_,rfl,rfl,(show(0:Int)<999999 by decide),_,_,rfl,rfl,?_⟩;have z0:1≤1+p0/8%999999∧1+p0/8%999999≤999999:=by lia
    obtain⟨m,AL,hm⟩:=int_at [if 3*(1+p0/8%999999)<999999 then 3*(1+p0/8%999999)else 999999,999999] (i:=p0/4%2) (by lia) (show p0/4%2<2 by lia);have EI:1≤m∧m≤999999:=by
     simp only[List.mem_cons,List.not_mem_nil,or_false]at AL;rcases AL with rfl|rfl
     ·split<;>lia
     ·lia
    refine⟨_,rfl,_,_,rfl,rfl, .inl (XU),_,_,rfl,aD XN,fun p hp=>?_⟩;have jI:=ax.upd (o:= .lst [.int (if 3*(1+p0/8%999999)<999999 then 3*(1+p0/8%999999)else 999999), .int 999999]) hp _ _ qG;refine⟨_,rfl,D,_,0,_,rfl,rfl, .of jI,av (j:=0) rfl,_,_,rfl,rfl,Tw _,_,_,rfl,rfl,c2,p,_,_,_,rfl,rfl, .of ae,hm,?_⟩;have z3:0≤p3%m:=Int.emod_nonneg _ (by lia);have z4:p3%m<m:=Int.emod_lt_of_pos _ (by lia);exact⟨_,rfl,_,rfl,D,_,1,_,rfl,rfl, .of jI,av (j:=1) rfl,_,_,rfl,rfl,cM,_,rfl,D,_,2,_,rfl,rfl, .of jI,av (j:=2) rfl,_,_,rfl,rfl,cM,_,rfl,D,_,3,_,rfl,rfl, .of jI,av (j:=3) rfl,_,rfl,_,_,rfl,rfl,(show(0:Int)<m by lia),_,_,rfl,rfl,aD XN,fun p2 CA=>q _ p2 _ _ _ _ ((s1.trans (ax.upd hp)).trans (ax.upd CA)) ((s1.trans (ax.upd hp)).free CA) ae XR (by lia) (by lia) (by lia)⟩
theorem cX:aJ ["_law_cell","_law_bank_here","_law_same","_law_found","_law_rest","_law_x","_law_y","_law_price"] ["_law_cell","_law_bank_here","_law_same"] (aq kU):=⟨rfl,rfl,rfl,by decide+kernel,rfl,by decide+kernel,by decide+kernel⟩
include T in
theorem vP{f:Addr}{fd:FuncData}(F:jy K "_law_near" "_law_near" kU f fd):aZ P w K mg base (de P w) true 1 f fd ["_law_cell","_law_bank_here","_law_same"] vk:=by
 refine F.gA cX XO (fun cc A outer s H vs Q E hr h hX=>?_)
 ·obtain⟨cell,same,b,zs,rfl,_⟩:=h;rfl
 ·obtain⟨cell,same,b,zs,rfl,hb,Wv,hw,hn,Xk,Ex,q⟩:=h;have L4:(0:Int)<same+3:=XT;refine⟨_,(XA (Xp (3) cX.nd (@cf _ _ _ _ ai)) (XA (Xp (4) cX.nd (pv 0)) (XA (@bL _ _ _ _ _ _ _ _ hX.own XS (@bu _ K _ _ _ (pv 1) (XW)) (Xr (5) cX.nd (Or.inl rfl)) (XB (@bL _ _ _ _ _ _ _ _ hX.own XS (@bu _ K _ _ _ (pv 1) (XW)) (Xr (6) cX.nd (Or.inl rfl)) (XB (XI (@a7 _ _ _ _ _ _ _ _ GB (pv 5) (pv 6) (aW _)) (XA (Xp (7) cX.nd (Xw bG (Xw dj (pv 4) af) (Xw bo (pv 2) af))) (XG (XI (@a7 _ _ _ _ _ _ _ _ iD (Xw bG (pv 4) af) af (aW _)) (XA (@aY _ _ _ _ (Xy K PySem.F.plainAttrs_list PySem.F.slot_list_append PySem.F.type_list_append bK (pv 3) (Xo (@fK _ _ _ _ _ (Xo (pv 5) (Xo (pv 6) (Xo (Xu (pe rfl) (by exact rfl) T.C8 PyProof.Rows.Boot.«min» (Xo (pv 7) (Xo af ai))) ai)))) ai)) (XW)) (XB (Xp (4) cX.nd (Xw dj (pv 4) (Xw bo (pv 2) af))))) (XB (XI (@a7 _ _ _ _ _ _ _ _ iD (Xw bG (pv 4) af) af (aW _)) (XB (@aY _ _ _ _ (Xy K PySem.F.plainAttrs_list PySem.F.slot_list_append PySem.F.type_list_append bK (pv 3) (Xo (@fK _ _ _ _ _ (Xo (pv 5) (Xo (pv 6) (Xo af ai)))) ai)) (XW))) aT))) (XB (Xp (4) cX.nd (Xw dj (pv 4) af))))) aT)) (by intro _;rfl))) (by intro _;rfl)) (XB (@aO _ _ _ _ (pv 3)))))),?_⟩;refine⟨aD XN,fun l hl=>?_⟩;refine⟨_,rfl,?_⟩;have Xl:b≠l:=aA hb hl;refine⟨_,rfl,b,rfl,⟨_, .of (ax.upd hl _ _ hb)⟩,?_⟩;refine cG (xs:=zs.map V.str) (fun i σ H'=>(∃(rest:Int)(u1 u2 u3:Option V),σ=[some (.int cell),some (.ref b),some (.int same),some (.ref l),some (.int rest),u1,u2,u3])∧ax H H'∧∃xs fs,H' l=some (.lst xs)∧dG H' xs fs∧cR zs i 0 fs) ⟨⟨_,_,_,_,rfl⟩,ax.upd hl,[],[],ae, .nil, .nil⟩ ?_ ?_ ?_
  ·rintro i σ H' _ ⟨_,s1,_⟩;exact .of (s1 _ _ hb)
  ·rintro i v σ H' hv ⟨⟨rest,u1,u2,u3,rfl⟩,s1,xs,fs,kr,T1,P1⟩;obtain⟨x,hx,rfl⟩:∃x,zs[i]?=some x∧v= .str x:=lD hv;have hi:i<zs.length:=(Xv hx).1;refine⟨_,rfl,b,rfl,⟨_, .of (s1 _ _ hb)⟩,?_⟩;refine cG (xs:=zs.map V.str) (fun j σ H'=>(∃(rest:Int)(u2 u3:Option V),σ=[some (.int cell),some (.ref b),some (.int same),some (.ref l),some (.int rest),some (.str x),u2,u3])∧ax H H'∧∃xs fs,H' l=some (.lst xs)∧dG H' xs fs∧cR zs i j fs) ⟨⟨_,_,_,rfl⟩,s1,xs,fs,kr,T1,P1⟩ ?_ ?_ ?_
   ·rintro j σ H' _ ⟨_,s1,_⟩;exact .of (s1 _ _ hb)
   ·clear s1 kr T1 P1 xs fs u1 u2 u3 rest H';rintro j v σ H' hv ⟨⟨rest,u2,u3,rfl⟩,s1,xs,fs,kr,T1,P1⟩;obtain⟨y,hy,rfl⟩:∃y,zs[j]?=some y∧v= .str y:=lD hv;have Ba:xs.length<1000:=by
     have h1:=P1.XY;have h2:i*(zs.length-1)≤8*7:=Nat.mul_le_mul XQ (XT);have h3:j<zs.length:=(Xv hy).1;have h4:=T1.1;omega
    refine⟨_,rfl,_,rfl,rfl,_,rfl,?_⟩;refine bj (fun h=>?_) (fun h=>?_)
    rotate_left
    ·exact⟨⟨_,_,_,rfl⟩,s1,xs,fs,kr,T1,P1.skip⟩
    have d6:¬x=y:=by simpa using h
    refine⟨_,rfl,_,_,rfl,rfl,⟨XU,XU⟩,_,rfl,_,_,rfl,rfl,_,_,rfl,rfl,L4,?_⟩;have p0:0≤rest/3%(same+3):=Int.emod_nonneg _ (XT);have add:∀(t:Addr)(ht:H' t=none)(pr:Int),0≤pr→pr≤999999→ax H (upd (upd H' t (.tup [.str x, .str y, .int pr])) l (.lst (xs++[.ref t])))∧∃Cf HA,upd (upd H' t (.tup [.str x, .str y, .int pr])) l (.lst (xs++[.ref t])) l=some (.lst Cf)∧dG (upd (upd H' t (.tup [.str x, .str y, .int pr])) l (.lst (xs++[.ref t]))) Cf HA∧cR zs i (j+1) HA:=fun t ht pr h0 h1=>by
     refine⟨(s1.trans (ax.upd ht)).e6 hl,_,fs++[(x,y,pr)],ae,?_,P1.add hn hw hx hy d6 h0 h1⟩;have T2:dG (upd H' t (.tup (IX (x,y,pr)))) (xs++[.ref t]) (fs++[(x,y,pr)]):=(T1.same (ax.upd ht)).snoc ae;exact T2.cF (fg.lst (ax.upd ht _ _ kr))
    refine⟨fun σ H2=>(∃(rest:Int)(u3:Option V),σ=[some (.int cell),some (.ref b),some (.int same),some (.ref l),some (.int rest),some (.str x),some (.str y),u3])∧ax H H2∧∃xs fs,H2 l=some (.lst xs)∧dG H2 xs fs∧cR zs i (j+1) fs,?_,?_⟩
    ·refine⟨_,rfl,_,_,rfl,rfl,(show(0:Int)<3 by decide),rfl,_,rfl,?_⟩;refine bj (fun _=>?_) (fun _=>?_)
     ·refine⟨_,rfl, .inl ⟨rfl,_, .of kr⟩,_,rfl,_,rfl,_,rfl,_,_,rfl,aD XN,fun t ht=>⟨l,xs,_,rfl,rfl,ax.upd ht _ _ kr,a_ XQ,?_⟩⟩;obtain⟨a1,a2⟩:=add t ht (if 999999<rest/3%(same+3)then 999999 else rest/3%(same+3)) (by split<;>omega) (by split<;>omega);exact⟨_,rfl,_,rfl,_,_,rfl,rfl,_,_,rfl,rfl,⟨L4,XT⟩,⟨_,_,rfl⟩,a1,a2⟩
     ·refine⟨_,rfl,_,_,rfl,rfl,(show(0:Int)<9 by decide),rfl,_,rfl,?_⟩;refine bj (fun _=>?_) (fun _=>?_)
      ·refine⟨_,rfl, .inl ⟨rfl,_, .of kr⟩,_,rfl,_,rfl,aD XN,fun t ht=>⟨l,xs,_,rfl,rfl,ax.upd ht _ _ kr,a_ XQ,?_⟩⟩;obtain⟨a1,a2⟩:=add t ht 999999 (XU) (XU);exact⟨⟨_,_,rfl⟩,a1,a2⟩
      ·exact⟨⟨_,_,rfl⟩,s1,xs,fs,kr,T1,P1.skip⟩
    rintro σ H2 ⟨⟨HB,u4,rfl⟩,s2,Cf,HA,uk,T2,P2⟩;exact⟨_,rfl,_,_,rfl,rfl,⟨XU,XU⟩,⟨_,_,_,rfl⟩,s2,Cf,HA,uk,T2,P2⟩
   ·rintro σ H2 ⟨⟨HB,u4,u5,rfl⟩,s2,Cf,HA,uk,T2,P2⟩;rw[List.length_map]at P2;exact⟨⟨_,_,_,_,rfl⟩,s2,Cf,HA,uk,T2,P2.row hi⟩
  ·rintro σ H2 ⟨⟨HB,u4,u5,u6,rfl⟩,s2,Cf,HA,uk,T2,P2⟩;rw[List.length_map]at P2;exact⟨_,rfl,q H2 l Cf HA s2 hl uk T2 (P2.good Wv)⟩
variable(i8:bN P w K mg base true 1 "_law_bank" ["_law_cell","_law_other","_law_many"] vj)
variable(i9:bN P w K mg base true 2 "_law_book" ["_law_script","_law_cell","_law_spot","_law_many","_law_bank_here"] (vm K))
variable(ik:bN P w K mg base true 2 "_law_quote" ["_law_script","_law_cell","_law_spot","_law_many","_law_first","_law_bank_here"] (rK K))
variable(fY:bN P w K mg base true 2 "_law_numbers" ["_law_script","_law_spot"] (mw K))
variable(i_:bN P w K mg base true 1 "_law_near" ["_law_cell","_law_bank_here","_law_same"] vk)
theorem cY:aJ ["_law_script","_law_most","_law_many","_law_bank_here","_law_one","_law_other","_law_first","_law_second","_law_numbers_here"] ["_law_script","_law_most"] (aq kW):=⟨rfl,rfl,rfl,by decide+kernel,rfl,by decide+kernel,by decide+kernel⟩
include T aX i8 i9 ik fY i_ in
theorem vQ{f:Addr}{fd:FuncData}(F:jy K "_law_case" "_law_case" kW f fd):aZ P w K mg base (de P w) true 3 f fd ["_law_script","_law_most"] (vn K):=by
 refine F.gA cY XO (fun cc A outer s H vs Q E hr h hX=>?_)
 ·obtain⟨a,ns,most,rfl,_⟩:=h;rfl
 ·obtain⟨a,ns,most,rfl,hS,Rk,AL,q⟩:=h;refine⟨_,(XG (Xp (2) cY.nd (Xw bo (Xw bo af (Xw bG (Xq aX aR (Xo (pv 0) (Xo af ai))) af)) (Xw mh (@gk _ _ _ _ _ _ _ _ _ ph XS T.YK PyProof.Rows.Boot.«int» (Xo (@fj _ _ _ _ _ _ _ _ rn (pv 1) af (aW _)) ai) (XU) (XU) (XW) (XW)) af))) (XG (Xp (3) cY.nd (Xq i8 aR (Xo (Xq aX aR (Xo (pv 0) (Xo af ai))) (Xo (Xq aX aR (Xo (pv 0) (Xo af ai))) (Xo (pv 2) ai))))) (XG (Xp (4) cY.nd (Xw cA (pv 1) (Xw bG (Xq aX aR (Xo (pv 0) (Xo af ai))) (Xw bo (pv 1) af)))) (XG (Xp (5) cY.nd (Xw cA (pv 1) (Xw bG (Xq aX aR (Xo (pv 0) (Xo af ai))) (Xw bo (pv 1) af)))) (XG (Xp (6) cY.nd (Xq i9 aR (Xo (pv 0) (Xo (Xq aX aR (Xo (pv 0) (Xo af ai))) (Xo af (Xo (pv 4) (Xo (pv 3) ai))))))) (XG (Xp (7) cY.nd (Xq ik aR (Xo (pv 0) (Xo (Xq aX aR (Xo (pv 0) (Xo af ai))) (Xo af (Xo (pv 5) (Xo (pv 6) (Xo (pv 3) ai)))))))) (XG (Xp (8) cY.nd (Xq fY aR (Xo (pv 0) (Xo af ai)))) (XB (@aO _ _ _ _ (@cf _ _ _ _ (Xo (pv 6) (Xo (pv 7) (Xo (pv 8) (Xo (Xq i_ aR (Xo (Xq aX aR (Xo (pv 0) (Xo af ai))) (Xo (@kH _ _ _ _ _ _ _ _ _ _ (Z0 K) (pv 3) uR (@jT _ _ _ af)) (Xo (Xs (pv 8) af) ai)))) ai)))))))))))))),?_⟩;refine⟨fun σ H1=>∃many:Int,σ=[some (.ref a),some (.int most),some (.int many),none,none,none,none,none,none]∧H1=H∧1≤many∧many≤12,?_,?_⟩
  ·refine⟨_,rfl,a,ns,2,rfl,hS,XU,_,_,rfl,rfl,(show(0:Int)<5 by decide),_,_,rfl,rfl,_,rfl,_,_,rfl,rfl, .inr ⟨_,rfl,_,_,rfl,rfl, .inr ⟨XU,XU⟩,_,_,rfl,rfl,_,rfl,rfl,?_,?_⟩⟩
   ·split<;>lia
   ·split<;>lia
  rintro σ H ⟨many,rfl,rfl,Xm,Ho⟩;refine⟨fun σ H1=>∃(b:Addr)(zs:List Str),σ=[some (.ref a),some (.int most),some (.int many),some (.ref b),none,none,none,none,none]∧ax H H1∧H1 b=some (.lst (zs.map V.str))∧(1≤zs.length∧zs.length≤12)∧(∀z∈zs,rF z=true)∧zs.Nodup,?_,?_⟩
  ·exact⟨_,rfl,a,ns,0,rfl,hS,XU,_,rfl,a,ns,1,rfl,hS,XU,_,rfl,_,_,many,rfl,by lia,by lia,fun H' b zs s1 hb g7 hz hw hn=>⟨b,zs,rfl,s1,g7,by lia,hw,hn⟩⟩
  rintro σ H1 ⟨b,zs,rfl,s1,g7,hz,hw,hn⟩;have Kc:=s1.seq hS;refine⟨fun σ H2=>∃one:Int,σ=[some (.ref a),some (.int most),some (.int many),some (.ref b),some (.int one),none,none,none,none]∧H2=H1∧0≤one∧one≤most,?_,?_⟩
  ·have z0:0≤cell ns 3%(most+1):=Int.emod_nonneg _ (by lia);have z1:cell ns 3%(most+1)<most+1:=Int.emod_lt_of_pos _ (by lia);exact⟨_,rfl,_,rfl,a,ns,3,rfl,Kc,XU,_,rfl,_,_,rfl,rfl,_,_,rfl,rfl,(show(0:Int)<most+1 by lia),_,_,rfl,rfl,_,rfl,rfl,by lia,by lia⟩
  rintro σ H1 ⟨one,rfl,rfl,Ww,FR⟩;refine⟨fun σ H2=>∃Gq:Int,σ=[some (.ref a),some (.int most),some (.int many),some (.ref b),some (.int one),some (.int Gq),none,none,none]∧H2=H1∧0≤Gq∧Gq≤most,?_,?_⟩
  ·have z0:0≤cell ns 4%(most+1):=Int.emod_nonneg _ (by lia);have z1:cell ns 4%(most+1)<most+1:=Int.emod_lt_of_pos _ (by lia);exact⟨_,rfl,_,rfl,a,ns,4,rfl,Kc,XU,_,rfl,_,_,rfl,rfl,_,_,rfl,rfl,(show(0:Int)<most+1 by lia),_,_,rfl,rfl,_,rfl,rfl,by lia,by lia⟩
  rintro σ H1 ⟨Gq,rfl,rfl,Gf,QA⟩;refine⟨fun σ H2=>∃(x:Addr)(xs:List Str),σ=[some (.ref a),some (.int most),some (.int many),some (.ref b),some (.int one),some (.int Gq),some (.ref x),none,none]∧ax H1 H2∧H2 x=some (.lst (xs.map V.str))∧xs.length=one.toNat∧∀w∈xs,w∈zs,?_,?_⟩
  ·exact⟨_,rfl,_,rfl,a,ns,10,rfl,Kc,XU,_,rfl,_,rfl,a,b,ns,zs,_,16,one,rfl,Kc,g7,⟨hz.1,by lia⟩,XU,Ww,by lia,fun H2 x xs s2 hx X7 hl m3=>⟨x,xs,rfl,s2,X7,hl,m3⟩⟩
  rintro σ H2 ⟨x,xs,rfl,s2,X7,Qs,Rl⟩;have s3:=s1.trans s2;have Rp:=s2.seq Kc;refine⟨fun σ H3=>∃(y:Addr)(ys:List Str),σ=[some (.ref a),some (.int most),some (.int many),some (.ref b),some (.int one),some (.int Gq),some (.ref x),some (.ref y),none]∧ax H2 H3∧H3 y=some (.lst (ys.map V.str))∧ys.length=Gq.toNat,?_,?_⟩
  ·exact⟨_,rfl,_,rfl,a,ns,11,rfl,Rp,XU,_,rfl,_,rfl,_,rfl,a,b,x,ns,zs,xs,_,17,Gq,rfl,Rp,s2 _ _ g7,X7,⟨hz.1,by lia⟩,by lia,Rl,XU,Gf,by lia,fun H3 y ys s4 hy EE hl _=>⟨y,ys,rfl,s4,EE,hl⟩⟩
  rintro σ H3 ⟨y,ys,rfl,s4,Wx,SR⟩;have s5:=s3.trans s4;have Tx:=s4.seq Rp;refine⟨fun σ H4=>∃(n:Addr)(sa ou iN le:Int),σ=[some (.ref a),some (.int most),some (.int many),some (.ref b),some (.int one),some (.int Gq),some (.ref x),some (.ref y),some (.ref n)]∧ax H3 H4∧H4 n=some (.lst [.int sa, .int ou, .int iN, .int le])∧(1≤sa∧sa≤999999)∧(0≤ou∧ou≤999999)∧(0≤iN∧iN≤999999)∧(1≤le∧le≤999999),?_,?_⟩
  ·exact⟨_,rfl,a,ns,5,rfl,Tx,XU,fun H4 D sa ou iN le s6 hD Hz h1 h2 h3 h4=>⟨D,sa,ou,iN,le,rfl,s6,Hz,h1,h2,h3,h4⟩⟩
  rintro σ H4 ⟨n,sa,ou,iN,le,rfl,s6,Tz,h1,h2,h3,h4⟩;have s7:=s5.trans s6;have Wz:=s6.seq Tx;have WA:H4 b=some (.lst (zs.map V.str)):=s6 _ _ (s4 _ _ (s2 _ _ g7));refine⟨_,rfl,_,rfl,_,rfl,_,rfl,a,ns,9,rfl,Wz,XU,_,rfl,_,rfl,b,_,rfl, .of WA,fun b5 KR=>?_⟩;have e5:uS (zs.map V.str) none (some 5)=(zs.take 5).map V.str:=by
   have:HT.jS (zs.map V.str).length (zs.map V.str).length (some 5)=min 5 zs.length:=by
    rw[List.length_map];simp only[HT.jS];split<;>lia
   have e0:HT.jS (zs.map V.str).length 0 none=0:=by simp[HT.jS]
   unfold uS;rw[this,e0,List.drop_zero,Nat.sub_zero,←List.map_take]
   congr 1
   apply List.ext_getElem?;intro i;rw[List.getElem?_take,List.getElem?_take];by_cases hi:i<zs.length
   ·by_cases h5:i<5
    ·rw[XH XR,XH h5]
    ·rw[XE XR,XE h5]
   ·simp[List.getElem?_eq_none (by lia:zs.length≤i)]
  rw[e5];have s8:ax H4 (upd H4 b5 (.lst ((zs.take 5).map V.str))):=ax.upd KR;have WB:=s8 _ _ Tz;refine⟨_,rfl,n,_,0,_,rfl,rfl, .of WB,av (j:=0) rfl,_,sa,b5,zs.take 5,rfl,ae,by simp;lia,fun z hz=>hw z (List.mem_of_mem_take hz),hn.sublist (List.take_sublist ..),h1.1,h1.2,fun H6 l us fs s9 hl TC T6 g6=>?_⟩;have sA:=(s7.trans s8).trans s9;refine⟨aD XN,fun r hr=>?_⟩;have sB:=ax.upd (o:= .lst [.ref x, .ref y, .ref n, .ref l]) hr;have sC:=s9.trans sB;refine q _ r ⟨xs,ys,sa,ou,iN,le,fs⟩ x y n l us (sA.trans sB) (sA.free hr) ⟨ae,?_,?_,?_,sB _ _ TC,T6.same sB⟩ ⟨by show xs.length≤_;lia,by show ys.length≤_;lia,g6,h1,h2,h3,h4⟩
  ·exact sC _ _ (s8 _ _ (s6 _ _ (s4 _ _ X7)))
  ·exact sC _ _ (s8 _ _ (s6 _ _ Wx))
  ·exact sC _ _ (s8 _ _ Tz)
theorem il:aJ ["_law_x","_law_y","_law_same","_law_near_here","_law_old","_law_new","_law_price"] ["_law_x","_law_y","_law_same","_law_near_here"] (aq kX):=⟨rfl,rfl,rfl,by decide+kernel,rfl,by decide+kernel,by decide+kernel⟩
include T in
theorem vR{f:Addr}{fd:FuncData}(F:jy K "_law_pair" "_law_pair" kX f fd):aZ P w K mg base (de P w) true 1 f fd ["_law_x","_law_y","_law_same","_law_near_here"] rH:=by
 refine F.gA il XO (fun cc A outer s H vs Q E hr h hX=>?_)
 ·obtain⟨x,y,same,l,xs,fs,rfl,_⟩:=h;rfl
 ·obtain⟨x,y,same,l,xs,fs,rfl,hl,T1,q⟩:=h;refine⟨_,(XA (XI (@a7 _ _ _ _ _ _ _ _ iD (pv 0) (pv 1) (aW _)) (XB (@aO _ _ _ _ (pv 2))) aT) (XA (@bL _ _ _ _ _ _ _ _ hX.own XS (@bu _ K _ _ _ (pv 3) (XW)) (@hJ _ K _ _ _ (3) _ (by exact rfl) (@bF _ _ _ _ _ (Xr (4) il.nd (Or.inl rfl)) (@bF _ _ _ _ _ (Xr (5) il.nd (Or.inl rfl)) (@bF _ _ _ _ _ (Xr (6) il.nd (Or.inl rfl)) g9 (XW)) (XW)) (XW)) (XW) (XW) (XW)) (XB (XI (@PW.pt _ _ _ (@pw_and _ _ _ _ _ _ _ (@a7 _ _ _ _ _ _ _ _ iD (pv 4) (pv 0) (aW _)) (@pw_and1 _ _ _ _ (@a7 _ _ _ _ _ _ _ _ iD (pv 5) (pv 1) (aW _))))) (XB (@aO _ _ _ _ (Xw cA (pv 2) (pv 6)))) aT)) (by intro _;rfl)) (XB (@aO _ _ _ _ jj)))),?_⟩;refine⟨_,rfl,_,rfl,rfl,_,rfl,?_⟩;refine bj (fun h=>?_) (fun h=>?_)
  ·have h:x=y:=by simpa using h
   rw[show dz same fs x y=some same by simp[dz,h]]at q;exact⟨_,rfl,q⟩
  have h:¬x=y:=by simpa using h
  refine⟨_,rfl,l,rfl,⟨_, .of hl⟩,?_⟩;refine cG (xs:=xs) (fun i σ H'=>(∃u1 u2 u3,σ=[some (.str x),some (.str y),some (.int same),some (.ref l),u1,u2,u3])∧H'=H∧∀f∈fs.take i,¬(f.1=x∧f.2.1=y)) ⟨⟨_,_,_,rfl⟩,rfl,XX⟩ ?_ ?_ ?_
  ·rintro i σ H' _ ⟨_,rfl,_⟩;exact .of hl
  ·rintro i v σ H' hv ⟨⟨u1,u2,u3,rfl⟩,rfl,vz⟩;have hi:i<fs.length:=by rw[←T1.1];exact(Xv hv).1
   have hf:fs[i]?=some fs[i]:=by simp[hi]
   generalize fs[i]=f0 at hf;obtain⟨t,wH,sq⟩:=T1.2 i f0 hf;rw[hv]at wH;cases wH;obtain⟨x0,y0,p0⟩:=f0;refine⟨t,_,rfl, .of sq,rfl,_,_,rfl,_,_,rfl,_,_,rfl,rfl,?_⟩;have Oh:¬(x0=x∧y0=y)→∀f∈fs.take (i+1),¬(f.1=x∧f.2.1=y):=fun d6 f TK=>by
    rw[List.take_succ,hf]at TK;rcases List.mem_append.mp TK with h|h
    ·exact vz f h
    ·have h:f=(x0,y0,p0):=by simpa using h
     rw[h];exact d6
   refine⟨_,rfl,_,rfl,rfl,_,rfl,?_⟩;refine bj (fun hh=>?_) (fun hh=>?_)
   ·have X_:x0=x:=by simpa using hh
    refine⟨_,rfl,_,rfl,rfl,_,rfl,?_⟩;refine bj (fun hh=>?_) (fun hh=>?_)
    ·have g7:y0=y:=by simpa using hh
     have e:dJ fs x y=some p0:=qj hf vz ⟨X_,g7⟩;rw[show dz same fs x y=some (same-p0) by simp[dz,h,e]]at q;exact⟨_,rfl,_,rfl,_,_,rfl,rfl,q⟩
    ·have g7:¬y0=y:=by simpa using hh
     exact⟨⟨_,_,_,rfl⟩,rfl,Oh fun z=>g7 z.2⟩
   ·have X_:¬x0=x:=by simpa using hh
    refine jU ?_;exact⟨⟨_,_,_,rfl⟩,rfl,Oh fun z=>X_ z.1⟩
  ·rintro σ H' ⟨⟨u1,u2,u3,rfl⟩,rfl,vz⟩;rw[T1.1,List.take_length]at vz;have e:dJ fs x y=none:=Dp vz;rw[show dz same fs x y=none by simp[dz,h,e]]at q;exact q
variable(cB:bN P w K mg base true 1 "_law_pair" ["_law_x","_law_y","_law_same","_law_near_here"] rH)
theorem cC:aJ ["_law_case_here","_law_cell","_law_way","_law_rest","_law_i","_law_j","_law_gain","_law_fits"] ["_law_case_here","_law_cell"] (aq ic):=⟨rfl,rfl,rfl,by decide+kernel,rfl,by decide+kernel,by decide+kernel⟩
include T cB in
theorem tN{f:Addr}{fd:FuncData}(F:jy K "_law_drawn" "_law_drawn" ic f fd):aZ P w K mg base (de P w) true 2 f fd ["_law_case_here","_law_cell"] pE:=by
 refine F.gA cC XO (fun cc A outer s H vs Q E hr h hX=>?_)
 ·obtain⟨a,k,c,f,g,m,l,us,rfl,_⟩:=h;rfl
 ·obtain⟨a,k,c,x1,x2,m,l,us,rfl,C1,hx,hy,q⟩:=h;have hu:=hr.units;have M8:(A.deeper (PyProof.Rows.envOfC "_law_drawn" (aq ic) s.heap.objs.size f cc)).units<cLine:=XT;have lx:(c.xs.map V.str).length=c.xs.length:=List.length_map ..;have ly:(c.ys.map V.str).length=c.ys.length:=List.length_map ..;refine⟨_,(XA (Xp (2) cC.nd (@cf _ _ _ _ ai)) (XA (Xp (3) cC.nd (pv 1)) (XA (@bL _ _ _ _ _ _ _ _ hX.own XS (@eX _ _ _ _ _ _ (by exact rfl) T.fo (Xo (Xu (aM K) (by exact rfl) T.eF PyProof.Rows.Boot.«len» (Xo (Xs (pv 0) af) ai)) ai) (XW)) (Xr (4) cC.nd (Or.inl rfl)) (XB (@bL _ _ _ _ _ _ _ _ hX.own XS (@eX _ _ _ _ _ _ (by exact rfl) T.fo (Xo (Xu (aM K) (by exact rfl) T.eF PyProof.Rows.Boot.«len» (Xo (Xs (pv 0) af) ai)) ai) (XW)) (Xr (5) cC.nd (Or.inl rfl)) (XA (Xp (6) cC.nd (Xq cB aR (Xo (Xs (Xs (pv 0) af) (pv 4)) (Xo (Xs (Xs (pv 0) af) (pv 5)) (Xo (Xs (Xs (pv 0) af) af) (Xo (Xs (pv 0) af) ai)))))) (XG (Xp (7) cC.nd (@Ll _ _ _ _ _ _ _ (@fj _ _ _ _ _ _ _ _ (ZQ K M8) (pv 2) (@cf _ _ _ _ ai) (aW _)) (@o_ _ _ _ _ _ (@rk _ _ _ _ _ _ _ (@fj _ _ _ _ _ _ _ _ m_ (@aB _ _ _ _ _ _ _ (cn K) (Xs (pv 2) (@l0 _ _ _ _ _ _ jk af)) af (fun _ _=>rfl)) (pv 4) (aW _)) (@o_ _ _ _ _ _ (@fj _ _ _ _ _ _ _ _ m_ (@aB _ _ _ _ _ _ _ (cn K) (Xs (pv 2) (@l0 _ _ _ _ _ _ jk af)) af (fun _ _=>rfl)) (pv 5) (aW _))))))) (XB (XI (@PW.pt _ _ _ (@pw_and _ _ _ _ _ _ _ (@dI _ _ _ (pv 7) (by intro _;rfl)) (@pw_and1 _ _ _ _ (XC (@m8 _ _ _ _ _ (pv 6)))))) (XG (XI (@a7 _ _ _ _ _ _ _ _ iD (Xw bG (pv 3) af) af (aW _)) (XB (@aY _ _ _ _ (Xy K PySem.F.plainAttrs_list PySem.F.slot_list_append PySem.F.type_list_append bK (pv 2) (Xo (@fK _ _ _ _ _ (Xo (pv 4) (Xo (pv 5) ai))) ai)) (XW))) aT) (XB (Xp (3) cC.nd (Xw dj (pv 3) af)))) aT)))) (by intro _;rfl))) (by intro _;rfl)) (XB (@aO _ _ _ _ (pv 2)))))),?_⟩;refine⟨aD XN,fun b hb=>?_⟩;refine⟨_,rfl,?_⟩;have C2:=C1.keep (ax.upd (o:= .lst []) hb);refine⟨_,rfl,a,_,0,_,rfl,rfl, .of C2.ca,av (j:=0) rfl,x1,_,rfl, .inl (.of C2.fi),((c.xs.map V.str).length:Int),rfl,XT,XT,?_⟩;refine eY (fun i σ H'=>(∃(r:Int)(u1 u2 u3 u4:Option V),σ=[some (.ref a),some (.int k),some (.ref b),some (.int r),u1,u2,u3,u4])∧ax H H'∧∃xs ps,H' b=some (.lst xs)∧eG H' xs ps∧iH c ps ps.length∧ps.length≤i*40) ⟨⟨_,_,_,_,_,rfl⟩,ax.upd hb,[],[],ae, .nil,fun k hk=>by simp at hk,XX⟩ ?_ ?_
  ·rintro i σ H' hi ⟨⟨r,u1,u2,u3,u4,rfl⟩,s1,xs,ps,g7,P1,G1,L1⟩;have hi:i<c.xs.length:=XT;have C3:=C1.keep s1;refine⟨_,rfl,a,_,1,_,rfl,rfl, .of C3.ca,av (j:=1) rfl,x2,_,rfl, .inl (.of C3.se),((c.ys.map V.str).length:Int),rfl,XT,XT,?_⟩;refine eY (fun j σ H'=>(∃(r:Int)(u2 u3 u4:Option V),σ=[some (.ref a),some (.int k),some (.ref b),some (.int r),some (.int (0+(i:Int))),u2,u3,u4])∧ax H H'∧∃xs ps,H' b=some (.lst xs)∧eG H' xs ps∧iH c ps ps.length∧ps.length≤i*40+j) ⟨⟨_,_,_,_,rfl⟩,s1,xs,ps,g7,P1,G1,L1⟩ ?_ ?_
   ·clear s1 g7 P1 G1 L1 xs ps u1 u2 u3 u4 r C3 H';rintro j σ H' hj ⟨⟨r,u2,u3,u4,rfl⟩,s1,xs,ps,g7,P1,G1,L1⟩;have hj:j<c.ys.length:=XT;have C3:=C1.keep s1;obtain⟨x,kP,X7⟩:=Ad (xs:=c.xs) (i:=0+(i:Int)) (XT) (XT);obtain⟨y,Ho,EE⟩:=Ad (xs:=c.ys) (i:=0+(j:Int)) (XT) (XT);have ep:c.pw (0+(i:Int),0+(j:Int))=dz c.same c.fs x y:=Case.pw_of kP Ho;refine⟨_,rfl,a,_,0,_,rfl,rfl, .of C3.ca,av (j:=0) rfl,_,rfl,x1,_,_,_,rfl,rfl, .of C3.fi,X7,_,rfl,a,_,1,_,rfl,rfl, .of C3.ca,av (j:=1) rfl,_,rfl,x2,_,_,_,rfl,rfl, .of C3.se,EE,_,rfl,a,_,2,_,rfl,rfl, .of C3.ca,av (j:=2) rfl,m,_,0,_,rfl,rfl, .of C3.nu,av (j:=0) rfl,_,rfl,a,_,3,_,rfl,rfl, .of C3.ca,av (j:=3) rfl,x,y,c.same,l,us,c.fs,rfl,C3.ne,C3.tr,?_⟩;rw[←ep];have Ba:xs.length≤1640∧ps.length≤1640:=by
     have:=P1.1;have:i*40≤40*40:=Nat.mul_le_mul_right _ (XT);omega
    have out:∃xs ps,H' b=some (.lst xs)∧eG H' xs ps∧iH c ps ps.length∧ps.length≤i*40+(j+1):=⟨xs,ps,g7,P1,G1,XT⟩
    refine⟨fun σ H2=>∃(b1:Bool),σ=[some (.ref a),some (.int k),some (.ref b),some (.int r),some (.int (0+(i:Int))),some (.int (0+(j:Int))),some (bx (c.pw (0+(i:Int),0+(j:Int)))),some (.bl b1)]∧ax H' H2∧(b1=true→ps=[]∨stepOk (pr ps (ps.length-1)) (0+(i:Int),0+(j:Int))=true),?_,?_⟩
    ·refine⟨_,rfl,aD XN,fun pn KZ=>⟨b,pn,xs,[],(fun _=>true),rfl,rfl, .of (ax.upd KZ _ _ g7), .of ae,(fun j x y h1 h2=>by simp at h2),_,rfl,?_⟩⟩;have s2:ax H' (upd H' pn (.lst [])):=ax.upd KZ;have P2:=P1.same s2;have X4:=s2 _ _ g7;refine bj (fun h1=>?_) (fun h1=>?_)
     ·refine⟨_,rfl,s2,fun _=> .inl ?_⟩;simp at h1;have:=P1.1;rw[h1]at this;exact List.length_eq_zero_iff.mp this.symm
     ·have d6:xs≠[]:=by
       intro z;subst z;simp at h1
      have hlen:=P1.1;have Nq:0<ps.length:=by
       have:=List.length_pos_iff.mpr d6;omega
      obtain⟨t,wH,sq⟩:=P2.Kv (k:=ps.length-1) (XT);have BR:qV xs (-1)=some (.ref t):=by
       have e:xs=xs.take (ps.length-1)++[V.ref t]:=by
        apply List.ext_getElem?;intro n;by_cases hn:n<ps.length-1
        ·rw[List.getElem?_append_left (by rw[List.length_take];omega),List.getElem?_take,XH hn]
        ·rw[List.getElem?_append_right (by rw[List.length_take];omega),List.length_take];by_cases ub:n=ps.length-1
         ·subst ub;rw[wH];have:ps.length-1-min (ps.length-1) xs.length=0:=XT;rw[this];rfl
         ·rw[List.getElem?_eq_none XQ,List.getElem?_eq_none (by simp;omega)]
       rw[e];exact rB _ _
      refine⟨_,rfl,_,rfl,b,_,_,_,rfl,rfl, .of X4,BR,t,_,0,_,rfl,rfl, .of sq,av (j:=0) rfl,_,rfl,_,_,rfl,rfl,_,rfl,?_⟩;refine bj (fun h2=>?_) (fun h2=>?_)
      ·refine⟨_,rfl,_,rfl,b,_,_,_,rfl,rfl, .of X4,BR,t,_,1,_,rfl,rfl, .of sq,av (j:=1) rfl,_,rfl,_,_,rfl,rfl,?_⟩;refine⟨_,rfl,s2,fun h3=> .inr ?_⟩;rw[stepOk,h2,h3];rfl
      ·exact⟨_,rfl,s2,fun h3=>absurd h3 XN⟩
    rintro σ H2 ⟨b1,rfl,s2,IJ⟩;have s3:=s1.trans s2;refine⟨_,rfl,_,rfl,?_⟩;refine bj (fun h1=>?_) (fun h1=>?_)
    rotate_left
    ·refine jU ?_;exact⟨⟨_,_,_,_,rfl⟩,s3,xs,ps,s2 _ _ g7,P1.same s2,G1,XT⟩
    have h1:b1=true:=h1;refine⟨_,rfl,_,rfl,?_⟩;refine bj (fun h2=>?_) (fun h2=>?_)
    rotate_left
    ·exact⟨⟨_,_,_,_,rfl⟩,s3,xs,ps,s2 _ _ g7,P1.same s2,G1,XT⟩
    have h2:(c.pw (0+(i:Int),0+(j:Int))).isSome=true:=by
     cases e:c.pw (0+(i:Int),0+(j:Int))with
     |none=>rw[e]at h2;simp[bx]at h2
     |some w=>rfl
    refine⟨fun σ H3=>σ=[some (.ref a),some (.int k),some (.ref b),some (.int r),some (.int (0+(i:Int))),some (.int (0+(j:Int))),some (bx (c.pw (0+(i:Int),0+(j:Int)))),some (.bl b1)]∧ax H H3∧∃xs ps,H3 b=some (.lst xs)∧eG H3 xs ps∧iH c ps ps.length∧ps.length≤i*40+(j+1),?_,?_⟩
    ·refine⟨_,rfl,_,_,rfl,rfl,(show(0:Int)<2 by decide),rfl,_,rfl,?_⟩;refine bj (fun h3=>?_) (fun h3=>?_)
     rotate_left
     ·exact⟨rfl,s3,xs,ps,s2 _ _ g7,P1.same s2,G1,XT⟩
     refine⟨_,rfl, .inl ⟨rfl,_, .of (s2 _ _ g7)⟩,_,rfl,_,rfl,aD XN,fun t ht=>⟨b,xs,_,rfl,rfl,ax.upd ht _ _ (s2 _ _ g7),a_ XQ,rfl,(s3.trans (ax.upd ht)).e6 hb,_,ps++[(0+(i:Int),0+(j:Int))],ae,?_,?_,by simp;omega⟩⟩
     ·have P4:eG (upd H2 t (.tup (ju (0+(i:Int),0+(j:Int))))) (xs++[.ref t]) (ps++[(0+(i:Int),0+(j:Int))]):=((P1.same s2).same (ax.upd ht)).snoc ae;exact P4.cF (fg.lst (ax.upd ht _ _ (s2 _ _ g7)))
     ·rw[List.length_append];exact ux G1 h2 (IJ h1)
    rintro σ H3 ⟨rfl,s4,WC,WD,KN,P3,G3,L3⟩;exact⟨_,rfl,_,_,rfl,rfl,⟨XU,XU⟩,⟨_,_,_,_,rfl⟩,s4,WC,WD,KN,P3,G3,L3⟩
   ·rintro σ H2 ⟨⟨r2,v2,v3,v4,rfl⟩,s2,Cf,Rq,X4,P2,G2,L2⟩;exact⟨⟨_,_,_,_,_,rfl⟩,s2,Cf,Rq,X4,P2,G2,XT⟩
  ·rintro σ H2 ⟨⟨r2,v1,v2,v3,v4,rfl⟩,s2,Cf,Rq,X4,P2,G2,L2⟩;refine⟨_,rfl,q H2 b Cf Rq s2 hb X4 P2 ?_ G2⟩;have:((c.xs.map V.str).length:Int).toNat≤40:=XT;have:=Nat.mul_le_mul_right 40 this;omega
theorem cb:aJ ["_law_case_here","_law_way","_law_total","_law_k","_law_i","_law_j","_law_gain"] ["_law_case_here","_law_way"] (aq j7):=⟨rfl,rfl,rfl,by decide+kernel,rfl,by decide+kernel,by decide+kernel⟩
include T cB in
theorem tO{f:Addr}{fd:FuncData}(F:jy K "_law_worth" "_law_worth" j7 f fd):aZ P w K mg base (de P w) true 2 f fd ["_law_case_here","_law_way"] pH:=by
 refine F.gA cb XO (fun cc A outer s H vs Q E hr h hX=>?_)
 ·obtain⟨a,w,c,f,g,m,l,us,ws,ps,rfl,_⟩:=h;rfl
 ·obtain⟨a,w,c,x1,x2,m,l,us,ws,ps,rfl,C1,no,hw,P1,hlen,Gd,q⟩:=h;obtain⟨d6,L7⟩:=jW Gd;have Nq:0<ps.length:=List.length_pos_iff.mpr d6;have Ge:=P1.1;have qp:=C1.ca;have AN:=C1.nu;have nO:=no.out;have nI:=no.into;refine⟨_,(XA (Xp (2) cb.nd af) (XA (@bL _ _ _ _ _ _ _ _ hX.own XS (@eX _ _ _ _ _ _ (by exact rfl) T.fo (Xo (Xu (aM K) (by exact rfl) T.eF PyProof.Rows.Boot.«len» (Xo (pv 1) ai)) ai) (XW)) (Xr (3) cb.nd (Or.inl rfl)) (XA (@Cm _ _ _ _ _ _ (Xs (pv 1) (pv 3)) (@hJ _ K _ _ _ (2) _ (by exact rfl) (@bF _ _ _ _ _ (Xr (4) cb.nd (Or.inl rfl)) (@bF _ _ _ _ _ (Xr (5) cb.nd (Or.inl rfl)) g9 (XW)) (XW)) (XW) (XW) (XW)) (XW) (XW) (XW)) (XA (Xp (6) cb.nd (Xq cB aR (Xo (Xs (Xs (pv 0) af) (pv 4)) (Xo (Xs (Xs (pv 0) af) (pv 5)) (Xo (Xs (Xs (pv 0) af) af) (Xo (Xs (pv 0) af) ai)))))) (XA (XI (XC (@mf _ _ _ _ _ (pv 6))) (XB (@aO _ _ _ _ jj)) aT) (XA (Xp (2) cb.nd (Xw bo (pv 2) (pv 6))) (XB (XI (@a7 _ _ _ _ _ _ _ _ rn (pv 3) af (aW _)) (XA (Xp (2) cb.nd (Xw cA (pv 2) (Xw mh (Xs (Xs (pv 0) af) af) (Xw cA (Xw cA (pv 4) (@aB _ _ _ _ _ _ _ (cn K) (Xs (pv 1) (Xw cA (pv 3) af)) af (fun _ _=>rfl))) af)))) (XB (Xp (2) cb.nd (Xw cA (pv 2) (Xw mh (Xs (Xs (pv 0) af) af) (Xw cA (Xw cA (pv 5) (@aB _ _ _ _ _ _ _ (cn K) (Xs (pv 1) (Xw cA (pv 3) af)) af (fun _ _=>rfl))) af)))))) aT)))))) (by intro _;rfl)) (XB (@aO _ _ _ _ (pv 2))))),?_⟩;refine⟨_,rfl,w,_,rfl, .inl (.of hw),(ws.length:Int),rfl,XT,XT,?_⟩;refine eY (fun i σ H'=>(∃(u1 u2 u3 u4:Option V),σ=[some (.ref a),some (.ref w),some (.int (if i=0 then 0 else dq c ps (i-1))),u1,u2,u3,u4])∧H'=H) ⟨⟨_,_,_,_,rfl⟩,rfl⟩ ?_ ?_
  ·rintro i σ H' hi ⟨⟨u1,u2,u3,u4,rfl⟩,e0⟩;subst e0;have hi:i<ps.length:=XT;obtain⟨tt,wH,sq⟩:=P1.Kv hi;obtain⟨wo,OH⟩:=Fx (L7 i hi);obtain⟨b1,b2⟩:=c.pw_in OH;obtain⟨x,kP,X7⟩:=Ad b1.1 b1.2;obtain⟨y,Ho,EE⟩:=Ad b2.1 b2.2;have ep:c.pw (pr ps i)=dz c.same c.fs x y:=Case.pw_of kP Ho;refine⟨_,rfl,_,rfl,w,_,_,_,rfl,rfl, .of hw,US wH,tt,_,rfl, .of sq,rfl,_,_,rfl,_,_,rfl,rfl,?_⟩;refine⟨_,rfl,a,_,0,_,rfl,rfl, .of qp,av (j:=0) rfl,_,rfl,x1,_,_,_,rfl,rfl, .of C1.fi,X7,_,rfl,a,_,1,_,rfl,rfl, .of qp,av (j:=1) rfl,_,rfl,x2,_,_,_,rfl,rfl, .of C1.se,EE,_,rfl,a,_,2,_,rfl,rfl, .of qp,av (j:=2) rfl,m,_,0,_,rfl,rfl, .of AN,av (j:=0) rfl,_,rfl,a,_,3,_,rfl,rfl, .of qp,av (j:=3) rfl,x,y,c.same,l,us,c.fs,rfl,C1.ne,C1.tr,?_⟩;rw[←ep,OH];refine⟨_,rfl,_,rfl,?_⟩;refine bj (fun hh=>absurd hh (by simp[bx])) (fun _=>?_);refine⟨_,rfl,_,rfl,_,_,rfl,rfl,?_⟩;refine⟨_,rfl,_,_,rfl,rfl,_,rfl,?_⟩;refine bj (fun h2=>?_) (fun h2=>?_)
   ·have h2:0<i:=by
     have:(0:Int)<0+(i:Int):=by simpa using h2
     omega
    obtain⟨j,rfl⟩:∃j,i=j+1:=⟨i-1,XT⟩
    have e1:((0+((j+1:Nat):Int))-1)=((j:Nat):Int):=XT;obtain⟨t2,QA,KH⟩:=P1.Kv (show j<ps.length by omega);have BR:qV ws ((0+((j+1:Nat):Int))-1)=some (.ref t2):=by rw[e1];exact av QA
    refine⟨_,rfl,_,rfl,a,_,2,_,rfl,rfl, .of qp,av (j:=2) rfl,m,_,1,_,rfl,rfl, .of AN,av (j:=1) rfl,_,rfl,_,rfl,_,rfl,_,_,rfl,rfl,w,_,_,_,rfl,rfl, .of hw,BR,t2,_,0,_,rfl,rfl, .of KH,av (j:=0) rfl,_,_,rfl,rfl,_,_,rfl,rfl,_,_,rfl,rfl, .inl ⟨XT,XT⟩,_,_,rfl,rfl,?_⟩;refine⟨_,rfl,_,rfl,a,_,2,_,rfl,rfl, .of qp,av (j:=2) rfl,m,_,2,_,rfl,rfl, .of AN,av (j:=2) rfl,_,rfl,_,rfl,_,rfl,_,_,rfl,rfl,w,_,_,_,rfl,rfl, .of hw,BR,t2,_,1,_,rfl,rfl, .of KH,av (j:=1) rfl,_,_,rfl,rfl,_,_,rfl,rfl,_,_,rfl,rfl, .inl ⟨XT,XT⟩,_,_,rfl,rfl,⟨some (.int (0+((j+1:Nat):Int))),some (.int (pr ps (j+1)).1),some (.int (pr ps (j+1)).2),some (.int wo),?_⟩,rfl⟩;have:dq c ps (j+1)=dq c ps j+wo-c.out*((pr ps (j+1)).1-(pr ps j).1-1)-c.into*((pr ps (j+1)).2-(pr ps j).2-1):=by
     simp only[dq,OH,Case.gap,Option.getD_some];omega
    simp only[Nat.add_sub_cancel,Nat.succ_ne_zero,if_false,this];rfl
   ·have h2:i=0:=by
     have:¬(0:Int)<0+(i:Int):=by simpa using h2
     omega
    subst h2;refine⟨⟨some (.int (0+((0:Nat):Int))),some (.int (pr ps 0).1),some (.int (pr ps 0).2),some (.int wo),?_⟩,rfl⟩;have:dq c ps 0=0+wo:=by simp[dq,OH]
    simp only[Nat.zero_add,Nat.sub_self,Nat.one_ne_zero,if_false,this];rfl
  ·rintro σ H' ⟨⟨u1,u2,u3,u4,rfl⟩,rfl⟩;have e:((ws.length:Nat):Int).toNat=ps.length:=XT;rw[e,if_neg XQ];exact⟨_,rfl,q⟩
variable(cZ:bN P w K mg base true 1 "_law_whole" ["_law_found"] rG)
theorem l8:aJ ["_law_found","_law_pair_here"] ["_law_found"] (aq j8):=⟨rfl,rfl,rfl,by decide+kernel,rfl,by decide+kernel,by decide+kernel⟩
include T cZ in
theorem tP{f:Addr}{fd:FuncData}(F:jy K "_law_pairs" "_law_pairs" j8 f fd):aZ P w K mg base (de P w) true 2 f fd ["_law_found"] pG:=by
 refine F.gA l8 XO (fun cc A outer s H vs Q E hr h hX=>?_)
 ·obtain⟨a,us,ps,rfl,_⟩:=h;rfl
 ·obtain⟨a,us,ps,rfl,ha,P1,q⟩:=h;refine⟨_,(XA (XI (@gi _ _ _ _ (@dI _ _ _ (Xu (jA K) (by exact rfl) T.fM PyProof.Rows.Boot.«isinstance» (Xo (pv 0) (Xo (@m7 _ _ (.ty "list") _ _ (by exact rfl) T.pB PyProof.Rows.Boot.«list» XS (XU) (XU)) ai))) (by intro _;rfl))) (XB (@aO _ _ _ _ kn)) aT) (XA (@bL _ _ _ _ _ _ _ _ hX.own XS (@bu _ K _ _ _ (pv 0) (XW)) (Xr (1) l8.nd (Or.inl rfl)) (XA (XI (@PW.pt _ _ _ (@pw_or _ _ _ _ _ _ _ (@gi _ _ _ _ (@dI _ _ _ (Xu (jA K) (by exact rfl) T.fM PyProof.Rows.Boot.«isinstance» (Xo (pv 1) (Xo (@m7 _ _ (.ty "tuple") _ _ (by exact rfl) T.Fi PyProof.Rows.Boot.«tuple» XS (XU) (XU)) ai))) (by intro _;rfl))) (@pw_or1 _ _ _ _ (@a7 _ _ _ _ _ _ _ _ GB (Xu (aM K) (by exact rfl) T.eF PyProof.Rows.Boot.«len» (Xo (pv 1) ai)) af (aW _))))) (XB (@aO _ _ _ _ kn)) aT) (XB (XI (@PW.pt _ _ _ (@pw_or _ _ _ _ _ _ _ (@gi _ _ _ _ (@dI _ _ _ (Xq cZ aR (Xo (@aB _ _ _ _ _ _ _ (cn K) (pv 1) af (fun _ _=>rfl)) ai)) (by intro _;rfl))) (@pw_or1 _ _ _ _ (@gi _ _ _ _ (@dI _ _ _ (Xq cZ aR (Xo (@aB _ _ _ _ _ _ _ (cn K) (pv 1) af (fun _ _=>rfl)) ai)) (by intro _;rfl)))))) (XB (@aO _ _ _ _ kn)) aT))) (by intro _;rfl)) (XB (@aO _ _ _ _ kn)))),?_⟩;refine⟨_,rfl,_,_,_,true,_,rfl,rfl, .lst ha,rfl,_,rfl,?_⟩;refine jU ?_;refine⟨_,rfl,a,rfl,⟨_, .of ha⟩,?_⟩;refine cG (xs:=us) (fun i σ H'=>(∃u,σ=[some (.ref a),u])∧H'=H) ⟨⟨_,rfl⟩,rfl⟩ ?_ ?_ ?_
  ·rintro i σ H' _ ⟨_,rfl⟩;exact .of ha
  ·rintro i v σ H' hv ⟨⟨u,rfl⟩,rfl⟩;have hi:i<ps.length:=by rw[←P1.1];exact(Xv hv).1
   obtain⟨t,wH,sq⟩:=P1.Kv hi;rw[hv]at wH;cases wH;refine⟨_,rfl,_,_,_,true,_,rfl,rfl, .tup sq,rfl,_,rfl,?_⟩;refine jU ?_;refine⟨_,rfl,t,_,rfl, .inr (.of sq),rfl,_,rfl,?_⟩;refine bj (fun hh=>absurd hh XN) (fun _=>?_);refine⟨_,rfl,t,_,0,_,rfl,rfl, .of sq,av (j:=0) rfl,_,rfl,_,rfl,?_⟩;refine jU ?_;refine⟨_,rfl,t,_,1,_,rfl,rfl, .of sq,av (j:=1) rfl,_,rfl,_,rfl,?_⟩;refine jU ?_;exact⟨⟨_,rfl⟩,rfl⟩
  ·rintro σ H' ⟨⟨u,rfl⟩,rfl⟩;exact q
variable(n9:l5 P w K mg base true 5 "Terms" aQ ["self","same","out","into","least","part","near"] [] (qX aQ dO cO))
theorem l_:aJ ["_law_case_here","_law_n"] ["_law_case_here"] (aq j9):=⟨rfl,rfl,rfl,by decide+kernel,rfl,by decide+kernel,by decide+kernel⟩
include T n9 in
theorem tQ{f:Addr}{fd:FuncData}(F:jy K "_law_terms" "_law_terms" j9 f fd):aZ P w K mg base (de P w) true 7 f fd ["_law_case_here"] (pF aQ):=by
 refine F.gA l_ XO (fun cc A outer s H vs Q E hr h hX=>?_)
 ·obtain⟨a,c,f,g,m,l,us,most,rfl,_⟩:=h;rfl
 ·obtain⟨a,c,x1,x2,m,l,us,most,rfl,C1,ok,q⟩:=h;refine⟨_,(XA (Xp (1) l_.nd (Xs (pv 0) af)) (XB (@aO _ _ _ _ (@qW _ _ _ _ _ _ _ _ _ _ _ _ _ _ n9 (hr.mono (XU)) hX.pass (Xo (Xs (pv 1) af) (Xo (Xs (pv 1) af) (Xo (Xs (pv 1) af) (Xo (Xs (pv 1) af) (Xo af (Xo (@gk _ _ _ _ _ _ _ _ _ (gB K) (by exact rfl) T.pB PyProof.Rows.Boot.«list» (Xo (Xs (pv 0) af) ai) (XU) (XU) (XW) (XW)) ai)))))) (XW) (XU) (XW) (XW))))),?_⟩;have AN:=C1.nu;have qp:=C1.ca;refine⟨_,rfl,a,_,2,_,rfl,rfl, .of qp,av (j:=2) rfl,?_⟩;refine⟨_,rfl,m,_,0,_,rfl,rfl, .of AN,av (j:=0) rfl,_,rfl,m,_,1,_,rfl,rfl, .of AN,av (j:=1) rfl,_,rfl,m,_,2,_,rfl,rfl, .of AN,av (j:=2) rfl,_,rfl,m,_,3,_,rfl,rfl, .of AN,av (j:=3) rfl,_,rfl,a,_,3,_,rfl,rfl, .of qp,av (j:=3) rfl,l,us,rfl, .inl (.of C1.ne),fun h hh=>fun x dx hx Dq d6=>?_⟩;have s5:ax (upd H h (.lst us)) (upd (upd (upd H h (.lst us)) dx (.own x)) x (.ins aQ dx [])):=(ax.upd Dq).e6 hx;have s4:ax H (upd H h (.lst us)):=ax.upd hh;refine⟨x,dx,⟨c.same,c.out,c.into,c.least,50⟩, .ref h,us,c.fs,rfl,ae,by rw[aj d6];exact ae, .inr ⟨h,rfl,s5 _ _ ae,C1.tr.same (s4.trans s5)⟩,Zr ok.good,?_⟩;have WE:iG ⟨c.same,c.out,c.into,c.least,50⟩=true:=by
   have:=ok.same;have:=ok.out;have:=ok.into;have:=ok.least;simp[iG,inR];omega
  rw[XH WE,XH ok.good];intro H6 l2 d sb T6 TC Xn;exact⟨rfl,q H6 x (s4.trans (SameBut.YS hx Dq sb)) ⟨_,dx,l2,d,us,T6,rfl,rfl,rfl,rfl⟩⟩
theorem c7:aJ ["_law_case_here","_law_many","_law_x","_law_y","_law_each","_law_same","_law_least"] ["_law_case_here"] (aq kY):=⟨rfl,rfl,rfl,by decide+kernel,rfl,by decide+kernel,by decide+kernel⟩
include T cB in
theorem vS{f:Addr}{fd:FuncData}(F:jy K "_law_calm" "_law_calm" kY f fd):aZ P w K mg base (de P w) true 2 f fd ["_law_case_here"] vK:=by
 refine F.gA c7 XO (fun cc A outer s H vs Q E hr h hX=>?_)
 ·obtain⟨a,c,f,g,m,l,us,rfl,_⟩:=h;rfl
 ·obtain⟨a,c,x1,x2,m,l,us,rfl,C1,ok,q⟩:=h;refine⟨_,(XG (Xp (1) c7.nd af) (XG (@bL _ _ _ _ _ _ _ _ hX.own XS (@bu _ K _ _ _ (Xs (pv 0) af) (XW)) (Xr (2) c7.nd (Or.inl rfl)) (XB (@bL _ _ _ _ _ _ _ _ hX.own XS (@bu _ K _ _ _ (Xs (pv 0) af) (XW)) (Xr (3) c7.nd (Or.inl rfl)) (XB (Xp (1) c7.nd (Xw bo (pv 1) (@gk _ _ _ _ _ _ _ _ _ ph XS T.YK PyProof.Rows.Boot.«int» (Xo (@Yg _ _ _ _ _ _ (@m8 _ _ _ _ _ (Xq cB aR (Xo (pv 2) (Xo (pv 3) (Xo (Xs (Xs (pv 0) af) af) (Xo (Xs (pv 0) af) ai)))))) (by first|exact bE _ (XU) (XU)|rfl)) ai) (XU) (XU) (XW) (XW))))) (by intro _;rfl))) (by intro _;rfl)) (XG (Xp (4) c7.nd (Xw bo (Xw dj (pv 1) af) af)) (XG (Xp (5) c7.nd (Xu (pe rfl) (by exact rfl) T.C8 PyProof.Rows.Boot.«min» (Xo (Xs (Xs (pv 0) af) af) (Xo (Xw dj af (pv 4)) ai)))) (XG (Xp (6) c7.nd (Xu (AZ rfl) (by exact rfl) T.GX PyProof.Rows.Boot.«max» (Xo (Xs (Xs (pv 0) af) af) (Xo (Xw bo (Xw mh (Xw cA (pv 4) af) (pv 5)) af) ai)))) (XB (@aO _ _ _ _ (@cf _ _ _ _ (Xo (Xs (pv 0) af) (Xo (Xs (pv 0) af) (Xo (@cf _ _ _ _ (Xo (pv 5) (Xo (Xs (Xs (pv 0) af) af) (Xo (Xs (Xs (pv 0) af) af) (Xo (pv 6) ai))))) (Xo (Xs (pv 0) af) ai)))))))))))),?_⟩;have qp:=C1.ca;have AN:=C1.nu;have lx:(c.xs.map V.str).length=c.xs.length:=List.length_map ..;have ly:(c.ys.map V.str).length=c.ys.length:=List.length_map ..;refine⟨fun σ H1=>H1=H∧σ=[some (.ref a),some (.int 0),none,none,none,none,none],⟨rfl,rfl⟩,?_⟩;rintro σ H1 ⟨rfl,rfl⟩;refine⟨fun σ H2=>H2=H1∧∃u v,σ=[some (.ref a),some (.int (manyN c c.xs.length:Nat)),u,v,none,none,none],?_,?_⟩
  ·refine⟨_,rfl,a,_,0,_,rfl,rfl, .of qp,av (j:=0) rfl,x1,rfl,⟨_, .of C1.fi⟩,?_⟩;refine cG (xs:=c.xs.map V.str) (fun i σ H2=>H2=H1∧∃u v,σ=[some (.ref a),some (.int (manyN c i:Nat)),u,v,none,none,none]) ⟨rfl,_,_,rfl⟩ ?_ ?_ ?_
   ·rintro i σ H2 _ ⟨rfl,_⟩;exact .of C1.fi
   ·rintro i v σ H2 hv ⟨rfl,u1,u2,rfl⟩;obtain⟨wx,OC,rfl⟩:=lD hv;refine⟨_,rfl,a,_,1,_,rfl,rfl, .of qp,av (j:=1) rfl,x2,rfl,⟨_, .of C1.se⟩,?_⟩;refine cG (xs:=c.ys.map V.str) (fun j σ H3=>H3=H2∧∃v,σ=[some (.ref a),some (.int (manyN c i+Ei c i j:Nat)),some (.str wx),v,none,none,none]) ⟨rfl,_,rfl⟩ ?_ ?_ ?_
    ·rintro j σ H3 _ ⟨rfl,_⟩;exact .of C1.se
    ·rintro j v σ H3 J8 ⟨rfl,u3,rfl⟩;obtain⟨wy,Ce,rfl⟩:=lD J8;have QZ:c.pw (aN (i,j))=dz c.same c.fs wx wy:=Case.pw_of (by rw[show(aN (i,j)).1=(i:Int)from rfl,rJ];exact OC) (by rw[show(aN (i,j)).2=(j:Int)from rfl,rJ];exact Ce);refine⟨_,rfl,_,rfl,_,rfl,_,rfl,a,_,2,_,rfl,rfl, .of qp,av (j:=2) rfl,m,_,0,_,rfl,rfl, .of AN,av (j:=0) rfl,_,rfl,a,_,3,_,rfl,rfl, .of qp,av (j:=3) rfl,wx,wy,c.same,l,us,c.fs,rfl,C1.ne,C1.tr, .inr ⟨_,rfl,_,_,rfl,rfl,rfl,some (.str wy),?_⟩⟩;rw[BI,QZ];cases dz c.same c.fs wx wy<;>simp[bx,List.set]<;>omega
    ·rintro σ H3 ⟨rfl,u3,rfl⟩;rw[ly];exact⟨rfl,_,_,rfl⟩
   ·rintro σ H2 ⟨rfl,u1,u2,rfl⟩;rw[lx];exact⟨rfl,_,_,rfl⟩
  rintro σ H1 ⟨rfl,u,v,rfl⟩;have TL:manyN c c.xs.length≤3600:=by
   have:=AI c c.xs.length;have h2:=Nat.mul_le_mul ok.x ok.y;omega
  have ee:((manyN c c.xs.length:Nat):Int)/21+1=(bO c:Int):=by unfold bO;omega
  have he:(1:Int)≤bO c∧(bO c:Int)≤172:=by unfold bO;omega
  refine⟨fun σ H2=>H2=H1∧σ=[some (.ref a),some (.int (manyN c c.xs.length:Nat)),u,v,some (.int (bO c)),none,none],⟨_,rfl,_,_,rfl,rfl,⟨XU,XU⟩,_,_,rfl,rfl,rfl,by rw[ee];rfl⟩,?_⟩;rintro σ H1 ⟨rfl,rfl⟩;have es:(if 999999/(bO c:Int)<c.same then 999999/(bO c:Int)else c.same)=d7 c:=by unfold d7;split<;>omega
  refine⟨fun σ H2=>H2=H1∧σ=[some (.ref a),some (.int (manyN c c.xs.length:Nat)),u,v,some (.int (bO c)),some (.int (d7 c)),none],⟨_,rfl,a,_,2,_,rfl,rfl, .of qp,av (j:=2) rfl,m,_,0,_,rfl,rfl, .of AN,av (j:=0) rfl,_,rfl,_,_,rfl,rfl,⟨XT,XT⟩,_,_,rfl,rfl,by rw[es];rfl⟩,?_⟩;rintro σ H1 ⟨rfl,rfl⟩;have s1:1≤d7 c∧d7 c≤999999:=by
   have:=(AJ ok XQ).same;exact this
  have el:(if ((bO c:Int)-1)*d7 c+1>c.least then((bO c:Int)-1)*d7 c+1 else c.least)=(bC c).least:=by show _=max c.least _;split<;>omega
  refine⟨fun σ H2=>H2=H1∧σ=[some (.ref a),some (.int (manyN c c.xs.length:Nat)),u,v,some (.int (bO c)),some (.int (d7 c)),some (.int (bC c).least)],⟨_,rfl,a,_,2,_,rfl,rfl, .of qp,av (j:=2) rfl,m,_,3,_,rfl,rfl, .of AN,av (j:=3) rfl,_,rfl,_,_,rfl,rfl,_,rfl,_,_,rfl,rfl, .inl ⟨XT,XT⟩,_,_,rfl,rfl,_,_,rfl,rfl,by rw[el];rfl⟩,?_⟩;rintro σ H1 ⟨rfl,rfl⟩;refine⟨_,rfl,a,_,0,_,rfl,rfl, .of qp,av (j:=0) rfl,_,rfl,a,_,1,_,rfl,rfl, .of qp,av (j:=1) rfl,_,rfl,_,rfl,a,_,2,_,rfl,rfl, .of qp,av (j:=2) rfl,m,_,1,_,rfl,rfl, .of AN,av (j:=1) rfl,_,rfl,a,_,2,_,rfl,rfl, .of qp,av (j:=2) rfl,m,_,2,_,rfl,rfl, .of AN,av (j:=2) rfl,_,rfl,aD XN,fun m' GU=>?_⟩;have sm:=ax.upd (o:= .lst [.int (d7 c), .int c.out, .int c.into, .int (bC c).least]) GU;have Rr:=sm _ _ qp;refine⟨_,rfl,a,_,3,_,rfl,rfl, .of Rr,av (j:=3) rfl,aD XN,fun b hb=>?_⟩;have sb:=ax.upd (o:= .lst [.ref x1, .ref x2, .ref m', .ref l]) hb;have sA:=sm.trans sb;exact q _ b m' sA (sm.free hb) ae ⟨ae,sA _ _ C1.fi,sA _ _ C1.se,sb _ _ ae,sA _ _ C1.ne,C1.tr.same sA⟩
variable(lP:bN P w K mg base true 8 "compare" ["first","second","terms"] (vJ aQ aH jG))
variable(ip:bN P w K mg base true 7 "_law_terms" ["_law_case_here"] (pF aQ))
theorem tR:aJ ["_law_case_here"] ["_law_case_here"] (aq j_):=⟨rfl,rfl,rfl,by decide+kernel,rfl,by decide+kernel,by decide+kernel⟩
include T lP ip in
theorem tS{f:Addr}{fd:FuncData}(F:jy K "_law_asked" "_law_asked" j_ f fd):aZ P w K mg base (de P w) true 9 f fd ["_law_case_here"] (vL aH):=by
 refine F.gA tR XO (fun cc A outer s H vs Q E hr h hX=>?_)
 ·obtain⟨a,c,f,g,m,l,us,most,rfl,_⟩:=h;rfl
 ·obtain⟨a,c,x1,x2,m,l,us,most,rfl,C1,ok,hm,q⟩:=h;refine⟨_,(XB (@aO _ _ _ _ (Xq lP aR (Xo (@gk _ _ _ _ _ _ _ _ _ (gB K) (by exact rfl) T.pB PyProof.Rows.Boot.«list» (Xo (Xs (pv 0) af) ai) (XU) (XU) (XW) (XW)) (Xo (@gk _ _ _ _ _ _ _ _ _ (gB K) (by exact rfl) T.pB PyProof.Rows.Boot.«list» (Xo (Xs (pv 0) af) ai) (XU) (XU) (XW) (XW)) (Xo (Xq ip aR (Xo (pv 0) ai)) ai)))))),?_⟩;have qp:=C1.ca;refine⟨_,rfl,a,_,0,_,rfl,rfl, .of qp,av (j:=0) rfl,x1,_,rfl, .inl (.of C1.fi),fun y1 Ho=>?_⟩;have s1:=ax.upd (o:= .lst ((bC c).xs.map V.str)) Ho;have Rt:=s1 _ _ qp;refine⟨_,rfl,a,_,1,_,rfl,rfl, .of Rt,av (j:=1) rfl,x2,_,rfl, .inl (.of (s1 _ _ C1.se)),fun y2 EE=>?_⟩;have s2:=s1.trans (ax.upd (o:= .lst ((bC c).ys.map V.str)) EE);refine⟨_,rfl,a,bC c,x1,x2,m,l,us,most,rfl,C1.keep s2,ok,fun H3 t s3 TF=>?_⟩;have J7:=s2.trans s3;have WG:=ok.x;have WH:=ok.y;refine⟨y1,y2,t,bC c,rfl,s3 _ _ (ax.upd EE _ _ ae),s3 _ _ ae,TF,XT,XT,fun es TD H4 r vs s4 hr h4 FL=>?_,fun ds f2 RC hl H4 s4=>?_⟩
  ·exact q es TD H4 r vs (J7.trans s4) (J7.free hr) h4 (FL.keep (fun _ _ _ h=>h) (fun _ _ h=>h) fun b hb=>J7.free hb)
  ·have:=El ok RC;omega
theorem qr:aJ ["_law_told","_law_part","_law_worth_here","_law_one"] ["_law_told","_law_part","_law_worth_here"] (aq iM):=⟨rfl,rfl,rfl,by decide+kernel,rfl,by decide+kernel,by decide+kernel⟩
include T Fc in
theorem xM{f:Addr}{fd:FuncData}(F:jy K "_law_met" "_law_met" iM f fd):aZ P w K mg base (de P w) true 1 f fd ["_law_told","_law_part","_law_worth_here"] (Yh aH):=by
 refine F.gA qr XO (fun cc A outer s H vs Q E hr h hX=>?_)
 ·obtain⟨t,p,wv,us,es,ws,ps,rfl,_⟩:=h;rfl
 ·obtain⟨t,p,wv,us,es,ws,ps,rfl,ht,FL,hp,PS,Bw,hex,q⟩:=h;have hu:=hr.units;have hu:(A.deeper (PyProof.Rows.envOfC "_law_met" (aq iM) s.heap.objs.size f cc)).units+1<cLine:=XT;refine⟨_,(XA (@bL _ _ _ _ _ _ _ _ hX.own XS (@bu _ K _ _ _ (pv 0) (XW)) (Xr (3) qr.nd (Or.inr rfl)) (XB (XI (@PW.pt _ _ _ (@pw_and _ _ _ _ _ _ _ (@a7 _ _ _ _ _ _ _ _ Cr (Xx K (pv 3)) (pv 2) (aW _)) (@pw_and1 _ _ _ _ (@dI _ _ _ (Xu (Bi K rfl) (by exact rfl) T.L9 PyProof.Rows.Boot.«any» (Xo (@lB _ _ _ _ _ _ _ _ _ _ _ _ _ _ (by exact rfl) (show br ["_law_told","_law_part","_law_worth_here","_law_one"] (aq iM) _ ["_law_pair_here"] [3] ["_law_one"]from⟨rfl,by decide+kernel,by decide+kernel,by decide+kernel,rfl,rfl,by decide+kernel,by decide+kernel,by decide+kernel⟩) (@bu _ K _ _ _ (pv 1) (XW)) (fun _ _ _ _ _=>(Xr (0) (show(["_law_pair_here","_law_one"]:List Str).Nodup by decide+kernel) (Or.inl rfl))) (fun _ _ _ _ _=>hG) (fun _ _ _ _ _=>(@fj _ _ _ _ _ _ _ _ (Zb K hu) (pv 0) (Xx K (pv 1)) (by with_unfolding_all rfl))) (by intro _;rfl)) ai)) (by intro _;rfl))))) (XB (@aO _ _ _ _ kn)) aT)) (by intro _;rfl)) (XB (@aO _ _ _ _ kn))),?_⟩;have hlen:=FL.1;refine⟨_,rfl,t,rfl,⟨_, .of ht⟩,?_⟩;refine cG (xs:=us) (fun k σ H1=>(∃u,σ=[some (.ref t),some (.ref p),some (.int wv),u])∧ax H H1∧∀d∈es.take k,¬(wv≤d.worth∧∃q∈ps,q∈d.pairs)) ⟨⟨_,rfl⟩, .refl _,fun d h=>by simp at h⟩ ?_ ?_ ?_
  ·rintro k σ H1 _ ⟨_,s1,_⟩;exact .of (s1 _ _ ht)
  ·rintro k v σ H1 hv ⟨⟨u,rfl⟩,s1,vz⟩;have hk:k<es.length:=by rw[←hlen];exact(Xv hv).1
   have ek:es[k]?=some es[k]:=by simp[hk]
   generalize es[k]=d at ek;obtain⟨a,dy,wy,oZ,pr,rg,jF,e1,F0⟩:=FL.2 k d ek;rw[hv]at e1;cases e1;have F:xG (fun _=>True) H1 aH a d dy wy oZ pr rg jF:=F0.keep (fun b o _ e=>s1 b o e) (fg.same s1) fun _ h=>h
   have et:es.take (k+1)=es.take k++[d]:=by rw[List.take_succ,ek];rfl
   refine⟨_,rfl,a,aH,dy,_,_,rfl,F.ob,Fc.cl,Fc.worth,rP d.worth wy oZ pr,_,rfl,_,_,rfl,rfl,_,rfl,?_⟩;refine bj (fun h1=>?_) (fun h1=>?_)
   ·have h1:wv≤d.worth:=by simpa using h1
    refine⟨_,rfl,p,rfl,⟨_, .of (s1 _ _ hp)⟩,fun D hD=>?_⟩;refine iz (xs:=ws) (fun i ys bA H2=>(∃u,bA=[u,some (.ref a)])∧ys=((ps.take i).map fun q=>V.bl (decide (q∈d.pairs)))∧H2 D=some (.lst ys)∧ax H1 H2) ⟨⟨_,rfl⟩,rfl,ae,ax.upd hD⟩ ?_ ?_ ?_
    ·rintro i ys bA H2 _ ⟨_,_,_,s2⟩;exact .of (s2 _ _ (s1 _ _ hp))
    ·rintro i v ys bA H2 J8 ⟨⟨u,rfl⟩,rfl,jI,s2⟩;have hi:i<ps.length:=by rw[←PS.1];exact(Xv J8).1
     have ei:ps[i]?=some ps[i]:=by simp[hi]
     generalize ps[i]=g at ei;obtain⟨tt,g1,g2⟩:=PS.2 i g ei;rw[J8]at g1;cases g1;refine pA ?_;refine⟨_,rfl,_,rfl,a,aH,dy,_,_,rfl,s2 _ _ F.ob,Fc.cl,Fc.pairs,nQ d.worth wy oZ pr,tt,pr,g,jF,d.pairs,rfl,rfl,s2 _ _ (s1 _ _ g2), .of (s2 _ _ F.hp),F.pp.same s2,jI,a_ (by simp;omega),⟨_,rfl⟩,?_,ae,s2.e6 hD⟩;rw[List.take_succ,ei];simp
    ·rintro ys bA H2 ⟨_,rfl,jI,s2⟩;rw[PS.1,List.take_length]at jI;have e9:(ps.map fun q=>V.bl (decide (q∈d.pairs)))=(ps.map fun q=>decide (q∈d.pairs)).map V.bl:=by rw[List.map_map];rfl
     rw[e9]at jI;refine⟨D,_,rfl, .of jI,_,rfl,?_⟩;refine bj (fun h2=>?_) (fun h2=>?_)
     ·exact q _ (s1.trans s2)
     ·refine⟨⟨_,rfl⟩,s1.trans s2,fun d' t9=>?_⟩;rw[et]at t9;rcases List.mem_append.mp t9 with t9|t9
      ·exact vz d' t9
      ·have:d'=d:=by simpa using t9
       subst this;rintro⟨_,g,hg,QC⟩;exact h2 (List.any_eq_true.mpr ⟨true,List.mem_map.mpr ⟨g,hg,decide_eq_true QC⟩,rfl⟩)
   ·refine jU ?_;have h1:¬wv≤d.worth:=by simpa using h1
    refine⟨⟨_,rfl⟩,s1,fun d' t9=>?_⟩;rw[et]at t9;rcases List.mem_append.mp t9 with t9|t9
    ·exact vz d' t9
    ·have:d'=d:=by simpa using t9
     subst this;exact fun z=>h1 z.1
  ·rintro σ H1 ⟨_,s1,vz⟩;rw[hlen,List.take_length]at vz;obtain⟨d,hd,h2⟩:=hex;exact absurd h2 (vz d hd)
variable(ja:bN P w K mg base true 3 "_law_case" ["_law_script","_law_most"] (vn K))
variable(jb:bN P w K mg base true 2 "_law_calm" ["_law_case_here"] vK)
variable(iq:bN P w K mg base true 2 "_law_drawn" ["_law_case_here","_law_cell"] pE)
variable(ir:bN P w K mg base true 9 "_law_asked" ["_law_case_here"] (vL aH))
variable(iu:bN P w K mg base true 2 "_law_pairs" ["_law_found"] pG)
variable(iy:bN P w K mg base true 2 "_law_worth" ["_law_case_here","_law_way"] pH)
variable(ke:bN P w K mg base true 1 "_law_met" ["_law_told","_law_part","_law_worth_here"] (Yh aH))
theorem kf:aJ ["_law_script","_law_case_here","_law_way","_law_told","_law_one","_law_a","_law_b","_law_part","_law_worth_here"] ["_law_script"] (aq sk):=⟨rfl,rfl,rfl,by decide+kernel,rfl,by decide+kernel,by decide+kernel⟩
include T Fc aX cZ ja jb iq ir iu iy ke in
theorem Kd{f:Addr}{fd:FuncData}(F:jy K "law" "law" sk f fd):aZ P w K mg base (de P w) true 10 f fd ["_law_script"] (YN K):=by
 refine F.gA kf XO (fun cc A outer s H vs Q E hr h hX=>?_)
 ·obtain⟨a,ns,rfl,_⟩:=h;rfl
 ·obtain⟨a,ns,rfl,hS,hlen,q⟩:=h;refine⟨_,(XG (Xp (1) kf.nd (Xq jb aR (Xo (Xq ja aR (Xo (pv 0) (Xo (Xs (@cf _ _ _ _ (Xo af (Xo af (Xo af (Xo af ai))))) (Xw bG (Xq aX aR (Xo (pv 0) (Xo af ai))) af)) ai))) ai))) (XG (Xp (2) kf.nd (Xq iq aR (Xo (pv 1) (Xo (Xq aX aR (Xo (pv 0) (Xo af ai))) ai)))) (XG (Xp (3) kf.nd (Xq ir aR (Xo (pv 1) ai))) (XG (XI (@gi _ _ _ _ (@dI _ _ _ (Xu (jA K) (by exact rfl) T.fM PyProof.Rows.Boot.«isinstance» (Xo (pv 3) (Xo (@m7 _ _ (.ty "list") _ _ (by exact rfl) T.pB PyProof.Rows.Boot.«list» XS (XU) (XU)) ai))) (by intro _;rfl))) (XB (@aO _ _ _ _ kn)) aT) (XG (@bL _ _ _ _ _ _ _ _ hX.own XS (@bu _ K _ _ _ (pv 3) (XW)) (Xr (4) kf.nd (Or.inl rfl)) (XB (XI (@PW.pt _ _ _ (@pw_or _ _ _ _ _ _ _ (@gi _ _ _ _ (@dI _ _ _ (Xq cZ aR (Xo (Xx K (pv 4)) ai)) (by intro _;rfl))) (@pw_or1 _ _ _ _ (@gi _ _ _ _ (@dI _ _ _ (Xq iu aR (Xo (Xx K (pv 4)) ai)) (by intro _;rfl)))))) (XB (@aO _ _ _ _ kn)) aT)) (by intro _;rfl)) (XG (@bL _ _ _ _ _ _ _ _ hX.own XS (@eX _ _ _ _ _ _ (by exact rfl) T.fo (Xo (Xu (aM K) (by exact rfl) T.eF PyProof.Rows.Boot.«len» (Xo (pv 2) ai)) ai) (XW)) (Xr (5) kf.nd (Or.inl rfl)) (XB (@bL _ _ _ _ _ _ _ _ hX.own XS (@AX _ _ _ _ _ _ _ (by exact rfl) T.fo (Xo (pv 5) (Xo (Xu (aM K) (by exact rfl) T.eF PyProof.Rows.Boot.«len» (Xo (pv 2) ai)) ai)) (XW) (XW)) (Xr (6) kf.nd (Or.inl rfl)) (XG (Xp (7) kf.nd (@kH _ _ _ _ _ _ _ _ _ _ (Z0 K) (pv 2) (@jT _ _ _ (pv 5)) (@jT _ _ _ (Xw bo (pv 6) af)))) (XG (Xp (8) kf.nd (Xq iy aR (Xo (pv 1) (Xo (pv 7) ai)))) (XB (XI (@PW.pt _ _ _ (@pw_and _ _ _ _ _ _ _ (@a7 _ _ _ _ _ _ _ _ Cr (pv 8) (Xs (Xs (pv 1) af) af) (aW _)) (@pw_and1 _ _ _ _ (@gi _ _ _ _ (@dI _ _ _ (Xq ke aR (Xo (pv 3) (Xo (pv 7) (Xo (pv 8) ai)))) (by intro _;rfl)))))) (XB (@aO _ _ _ _ kn)) aT)))) (by intro _;rfl))) (by intro _;rfl)) (XB (@aO _ _ _ _ kn)))))))),?_⟩;refine⟨fun σ H1=>∃(b:Addr)(c:Case)(x1 x2 m l:Addr)(us:List V),σ=[some (.ref a),some (.ref b),none,none,none,none,none,none,none]∧ax H H1∧kM H1 b (bC c) x1 x2 m l us∧gW 40 (bC c),?_,?_⟩
  ·obtain⟨mo,AL,hm⟩:=int_at [12,12,40,12] (i:=cell ns 12%4) (XT) (show cell ns 12%4<(4:Int) by omega);have EI:mo=12∨mo=40:=by simp at AL;omega
   refine⟨_,rfl,aD XN,fun p hp=>⟨_,rfl,a,ns,12,rfl,(ax.upd hp).seq hS,XU,_,_,rfl,rfl,(show(0:Int)<4 by decide),p,_,_,_,rfl,rfl, .of ae,by simpa using hm,a,ns,mo,rfl,(ax.upd hp).seq hS,XT,XT,fun H1 b c x1 x2 m l us s1 hb C1 ok=>?_⟩⟩;have hx:=ok.x;have hy:=ok.y;have Ru:gW 60 c:=⟨XT,XT,ok.good,ok.same,ok.out,ok.into,ok.least⟩
   have Rv:gW 40 c:=⟨XT,XT,ok.good,ok.same,ok.out,ok.into,ok.least⟩
   exact⟨b,c,x1,x2,m,l,us,rfl,C1,Ru,fun H2 b2 m2 s2 X4 uk C2=>⟨b2,c,x1,x2,m2,l,us,rfl,((ax.upd hp).trans s1).trans s2,C2,AJ Rv XQ⟩⟩
  rintro σ H1 ⟨b,c,x1,x2,m,l,us,rfl,s1,C1,ok⟩;have Kc:=s1.seq hS;have WG:=ok.x;have WH:=ok.y;refine⟨fun σ H2=>∃(w:Addr)(ws:List V)(ps:List Pr),σ=[some (.ref a),some (.ref b),some (.ref w),none,none,none,none,none,none]∧ax H1 H2∧H2 w=some (.lst ws)∧eG H2 ws ps∧ps.length≤2000∧iH (bC c) ps ps.length,?_,?_⟩
  ·exact⟨_,rfl,_,rfl,a,ns,13,rfl,Kc,XU,b,_,bC c,x1,x2,m,l,us,rfl,C1,XT,XT,fun H2 w ws ps s2 hw Es P2 L2 G2=>⟨w,ws,ps,rfl,s2,Es,P2,L2,G2⟩⟩
  rintro σ H2 ⟨w,ws,ps,rfl,s2,Es,P2,L2,L7⟩;have C2:=C1.keep s2;refine⟨fun σ H3=>∃(t:Addr)(vs:List V)(es:List Fd),σ=[some (.ref a),some (.ref b),some (.ref w),some (.ref t),none,none,none,none,none]∧ax H2 H3∧H3 t=some (.lst vs)∧cw (fun _=>True) H3 aH vs es∧sg (kx (bC c) []) (bC c).out (bC c).into (bC c).least es,?_,?_⟩
  ·exact⟨_,rfl,b,c,x1,x2,m,l,us,40,rfl,C2,ok,XT,fun es TD H3 t vs s3 _ h3 FL=>⟨t,vs,es,rfl,s3,h3,FL.keep (fun _ _ _ h=>h) (fun _ _ h=>h) fun _ _=>trivial,TD⟩⟩
  rintro σ H3 ⟨t,vs,es,rfl,s3,ht,FL,TD⟩;have C3:=C2.keep s3;have Rw:=s3 _ _ Es;have P3:=P2.same s3;have WI:=FL.1;refine⟨fun σ H4=>σ=[some (.ref a),some (.ref b),some (.ref w),some (.ref t),none,none,none,none,none]∧H4=H3,?_,?_⟩
  ·refine⟨_,rfl,_,_,_,true,_,rfl,rfl, .lst ht,rfl,_,rfl,?_⟩;refine jU ?_;exact⟨rfl,rfl⟩
  rintro σ H3 ⟨rfl,rfl⟩;refine⟨fun σ H4=>(∃u,σ=[some (.ref a),some (.ref b),some (.ref w),some (.ref t),u,none,none,none,none])∧H4=H3,?_,?_⟩
  ·refine⟨_,rfl,t,rfl,⟨_, .of ht⟩,?_⟩;refine cG (xs:=vs) (fun k σ H4=>(∃u,σ=[some (.ref a),some (.ref b),some (.ref w),some (.ref t),u,none,none,none,none])∧H4=H3) ⟨⟨_,rfl⟩,rfl⟩ ?_ ?_ ?_
   ·rintro k σ H4 _ ⟨_,rfl⟩;exact .of ht
   ·rintro k v σ H4 hv ⟨⟨u,rfl⟩,rfl⟩;have hk:k<es.length:=by rw[←WI];exact(Xv hv).1
    have ek:es[k]?=some es[k]:=by simp[hk]
    generalize es[k]=d at ek;obtain⟨y,dy,wy,oZ,pr,rg,jF,e1,F⟩:=FL.2 k d ek;rw[hv]at e1;cases e1;refine⟨_,rfl,y,aH,dy,_,_,rfl,F.ob,Fc.cl,Fc.worth,rP d.worth wy oZ pr,_,rfl,_,rfl,?_⟩;refine jU ?_;refine⟨_,rfl,y,aH,dy,_,_,rfl,F.ob,Fc.cl,Fc.pairs,nQ d.worth wy oZ pr,pr,jF,d.pairs,rfl,F.hp,F.pp,_,rfl,?_⟩;refine jU ?_;exact⟨⟨_,rfl⟩,rfl⟩
   ·rintro σ H4 ⟨⟨u,rfl⟩,rfl⟩;exact⟨⟨_,rfl⟩,rfl⟩
  rintro σ H3 ⟨⟨u,rfl⟩,rfl⟩;have Ge:=P3.1;refine⟨fun σ H4=>True,?_,fun σ H4 _=>q _⟩;refine⟨_,rfl,w,_,rfl, .inl (.of Rw),_,rfl,XT,XT,?_⟩;refine eY (fun i σ H4=>(∃u1 u2 u3 u4,σ=[some (.ref a),some (.ref b),some (.ref w),some (.ref t),u,u1,u2,u3,u4])∧ax H3 H4) ⟨⟨_,_,_,_,rfl⟩, .refl _⟩ ?_ (fun _ _ _=>trivial);rintro i σ H4 hi ⟨⟨u1,u2,u3,u4,rfl⟩,s4⟩;have hi:i<ps.length:=by rw[←Ge];have:i<((ws.length:Nat):Int).toNat:=hi;omega
  refine⟨_,rfl,_,rfl,w,_,rfl, .inl (.of (s4 _ _ Rw)),_,_,rfl,⟨XT,XT,XT,XT⟩,?_⟩;refine eY (fun j σ H5=>(∃u2 u3 u4,σ=[some (.ref a),some (.ref b),some (.ref w),some (.ref t),u,some (.int (0+(i:Int))),u2,u3,u4])∧ax H3 H5) ⟨⟨_,_,_,rfl⟩,s4⟩ ?_ (fun σ H5 ⟨⟨u2,u3,u4,e⟩,s5⟩=>⟨⟨_,_,_,_,e⟩,s5⟩);rintro j σ H5 hj ⟨⟨v2,v3,v4,rfl⟩,s5⟩;have hj:i+j<ps.length:=by rw[←Ge];have:j<((ws.length:Nat)-(0+(i:Int))).toNat:=hj;omega
  refine⟨fun σ H6=>∃y ys,σ=[some (.ref a),some (.ref b),some (.ref w),some (.ref t),u,some (.int (0+(i:Int))),some (.int (0+(i:Int)+(j:Int))),some (.ref y),v4]∧ax H3 H6∧H6 y=some (.lst ys)∧eG H6 ys ((ps.drop i).take (j+1)),?_,?_⟩
  ·refine⟨_,rfl,_,rfl,_,rfl,_,rfl,_,_,rfl,rfl,_,rfl,w,ws,rfl, .of (s5 _ _ Rw),fun y hy=>?_⟩;have e9:uS ws (some (0+(i:Int))) (some (0+(i:Int)+(j:Int)+1))=(ws.drop i).take (j+1):=by
    rw[show(0+(i:Int))=((i:Nat):Int) by omega,show((i:Nat):Int)+(j:Int)+1=((i+j+1:Nat):Int) by omega,F6 XQ (XT),show i+j+1-i=j+1 by omega]
   rw[e9];exact⟨y,_,rfl,s5.e6 (s5.free hy),ae,(((P3.same s5).drop i).take (j+1)).same (ax.upd hy)⟩
  rintro σ H6 ⟨y,ys,rfl,s6,TN,P6⟩;have iw:=BN L7 (a:=i) (n:=j+1) (XT) (XT);obtain⟨w1,w2⟩:=F8 iw;have nh:((ps.drop i).take (j+1)).length≤10000:=by rw[List.length_take,List.length_drop];omega
  have C6:=C3.keep s6;refine⟨fun σ H7=>σ=[some (.ref a),some (.ref b),some (.ref w),some (.ref t),u,some (.int (0+(i:Int))),some (.int (0+(i:Int)+(j:Int))),some (.ref y),some (.int (vl (lf (kx (bC c) [])) (bC c).out (bC c).into ((ps.drop i).take (j+1))))]∧H7=H6,?_,?_⟩
  ·refine⟨_,rfl,_,rfl,b,y,bC c,x1,x2,m,l,us,ys,_,rfl,C6,ok.num,TN,P6,nh,iw,?_⟩;rw[w2];exact⟨rfl,rfl⟩
  rintro σ H6 ⟨rfl,rfl⟩;have qp:=C6.ca;refine⟨_,rfl,_,rfl,b,_,2,_,rfl,rfl, .of qp,av (j:=2) rfl,m,_,3,_,rfl,rfl, .of C6.nu,av (j:=3) rfl,_,_,rfl,rfl,_,rfl,?_⟩;refine bj (fun h1=>?_) (fun h1=>?_)
  ·have h1:(bC c).least≤vl (lf (kx (bC c) [])) (bC c).out (bC c).into ((ps.drop i).take (j+1)):=by simpa using h1
   refine⟨_,rfl,_,rfl,_,rfl,t,y,_,vs,es,ys,_,rfl,s6 _ _ ht,FL.keep (fun b o _ e=>s6 b o e) (fg.same s6) (fun _ h=>h),TN,P6,nh,TD.met w1 h1,fun H7 s7=>?_⟩;refine⟨_,rfl,?_⟩;refine jU ?_;exact⟨⟨_,_,_,rfl⟩,s6.trans s7⟩
  ·refine jU ?_;exact⟨⟨_,_,_,rfl⟩,s6⟩
end
theorem all_mk{l:W.OpenLaw}{w:World}{K:W.Frag}{h:Heap}{mg:Str→Option Value}{fa:Addr}(X:K.In h)(G:h.Ns mainGlobals mg)(WJ:mg "law"=some (.ref fa))
  {n_ jc:Option Addr} {oa:Array (Option Value)} {oe jd je jf fZ jg:Value}
  {f6:Addr} {oh:Value} {oj:Option Addr} {om:Nat} {ot:Array (Option Value)} {ow:Tok}
  {aQ:Addr} (vT:MV K "Terms" aQ)
  {az:Addr} (sG:MV K "Trails" az)
  {aH:Addr} (pW:MV K "Finding" aH)
  {aF:Addr} (sI:MV K "Groups" aF)
  {ay:Addr} (k8:MV K "Gathering" ay)
  {jh:Addr} (oz:W.nsIn K mainGlobals "is_small_letter"=some (some (.ref jh)))
  (oA:fH K "is_small_letter" "is_small_letter" fO jh)
  {uG:Addr} (BS:W.nsIn K mainGlobals "is_word"=some (some (.ref uG)))
  (BU:fH K "is_word" "is_word" lK uG)
  {oB:Addr} (vU:W.nsIn K mainGlobals "is_between"=some (some (.ref oB)))
  (vV:fH K "is_between" "is_between" j1 oB)
  {k_:Addr} (sJ:W.nsIn K mainGlobals "check_number"=some (some (.ref k_)))
  (sL:fH K "check_number" "check_number" iL k_)
  {ji:Addr} (oC:W.nsIn K mainGlobals "check_near_form"=some (some (.ref ji)))
  (oE:fH K "check_near_form" "check_near_form" fQ ji)
  {l':Addr} (tT:W.nsIn K mainGlobals "near_prices"=some (some (.ref l')))
  (tU:fH K "near_prices" "near_prices" gD l')
  {e_:Addr} (pX:W.findIn K (.ref aQ) "__init__"=some (some (.ref e_))) (pY:W.isFn K (.ref e_)=true)
  (pZ:K.lookup e_=some ⟨oe,n_, .func (W.fnOf "__init__" "Terms.__init__" (eW bg) (d0 bg) (aq bg) (.ref f6) jd je jf jc fZ jg),oa⟩)
  (p4:W.codeIn K fZ "Terms.__init__"=true) (p5:W.keepIn K (.ref e_)=true)
  (oF:K.lookup f6=some ⟨oh,oj, .seq #[.int 50 ow, .none] om,ot⟩)
  {fC:Addr} (mQ:W.findIn K (.ref aQ) "pair_worth"=some (some (.ref fC))) (mR:W.isFn K (.ref fC)=true)
  (mS:fH K "pair_worth" "Terms.pair_worth" dM fC)
  {sM:Addr} (ZJ:W.nsIn K mainGlobals "greatest"=some (some (.ref sM)))
  (Zj:fH K "greatest" "greatest" j4 sM)
  {Et:Addr} (Ke:W.nsIn K mainGlobals "less"=some (some (.ref Et)))
  (Kf:fH K "less" "less" YQ Et)
  {iS:Addr} (mT:W.nsIn K mainGlobals "begun_or_gone_on"=some (some (.ref iS)))
  (mU:fH K "begun_or_gone_on" "begun_or_gone_on" fz iS)
  {dE:Addr} (jN:W.findIn K (.ref az) "brought_behind"=some (some (.ref dE))) (jO:W.isFn K (.ref dE)=true)
  (jP:fH K "brought_behind" "Trails.brought_behind" dC dE)
  {f7:Addr} (oG:W.findIn K (.ref az) "__init__"=some (some (.ref f7))) (oH:W.isFn K (.ref f7)=true)
  (oI:fH K "__init__" "Trails.__init__" d8 f7)
  {gw:Addr} (p6:W.findIn K (.ref az) "goes_on"=some (some (.ref gw))) (p7:W.isFn K (.ref gw)=true)
  (p8:fH K "goes_on" "Trails.goes_on" gv gw)
  {dS:Addr} (kg:W.findIn K (.ref az) "is_brought_by"=some (some (.ref dS))) (kh:W.isFn K (.ref dS)=true)
  (ki:fH K "is_brought_by" "Trails.is_brought_by" dN dS)
  {cN:Addr} (iV:W.findIn K (.ref az) "crossings_before"=some (some (.ref cN))) (iW:W.isFn K (.ref cN)=true)
  (iX:fH K "crossings_before" "Trails.crossings_before" cL cN)
  {eU:Addr} (la:W.findIn K (.ref az) "pair_before"=some (some (.ref eU))) (lb:W.isFn K (.ref eU)=true)
  (lg:fH K "pair_before" "Trails.pair_before" eK eU)
  {gY:Addr} (qM:W.findIn K (.ref az) "way_to"=some (some (.ref gY))) (qN:W.isFn K (.ref gY)=true)
  (qO:fH K "way_to" "Trails.way_to" gX gY)
  {fD:Addr} (mV:W.findIn K (.ref aH) "__init__"=some (some (.ref fD))) (mW:W.isFn K (.ref fD)=true)
  (mY:fH K "__init__" "Finding.__init__" fA fD)
  {sN:Addr} (ZR:W.nsIn K mainGlobals "order_of"=some (some (.ref sN)))
  (Z_:fH K "order_of" "order_of" mF sN)
  {lh:Addr} (sO:W.nsIn K mainGlobals "make_finding"=some (some (.ref lh)))
  (sP:fH K "make_finding" "make_finding" eL lh)
  {f9:Addr} (oJ:W.findIn K (.ref aF) "__init__"=some (some (.ref f9))) (oK:W.isFn K (.ref f9)=true)
  (oM:fH K "__init__" "Groups.__init__" fR f9)
  {kj:Addr} (vW:W.findIn K (.ref aF) "has"=some (some (.ref kj))) (vX:W.isFn K (.ref kj)=true)
  (vY:fH K "has" "Groups.has" hZ kj)
  {gy:Addr} (p9:W.findIn K (.ref aF) "take_in"=some (some (.ref gy))) (p_:W.isFn K (.ref gy)=true)
  (qb:fH K "take_in" "Groups.take_in" e7 gy)
  {iT:Addr} (sQ:W.findIn K (.ref aF) "unite"=some (some (.ref iT))) (sR:W.isFn K (.ref iT)=true)
  (sT:fH K "unite" "Groups.unite" eM iT)
  {jt:Addr} (tV:W.findIn K (.ref aF) "told"=some (some (.ref jt))) (tW:W.isFn K (.ref jt)=true)
  (tX:fH K "told" "Groups.told" gE jt)
  {eV:Addr} (ll:W.findIn K (.ref ay) "__init__"=some (some (.ref eV))) (lp:W.isFn K (.ref eV)=true)
  (lq:fH K "__init__" "Gathering.__init__" eO eV)
  {gz:Addr} (qc:W.findIn K (.ref ay) "mark"=some (some (.ref gz))) (qd:W.isFn K (.ref gz)=true)
  (qe:fH K "mark" "Gathering.mark" e8 gz)
  {ff:Addr} (lW:W.findIn K (.ref ay) "go_over"=some (some (.ref ff))) (lX:W.isFn K (.ref ff)=true)
  (lY:fH K "go_over" "Gathering.go_over" du ff)
  {f_:Addr} (oN:W.findIn K (.ref ay) "visit"=some (some (.ref f_))) (oO:W.isFn K (.ref f_)=true)
  (oP:fH K "visit" "Gathering.visit" d_ f_)
  {ma:Addr} (tY:W.nsIn K mainGlobals "best_groups"=some (some (.ref ma)))
  (tZ:fH K "best_groups" "best_groups" jo ma)
  {uH:Addr} (BV:W.nsIn K mainGlobals "shut_by"=some (some (.ref uH)))
  (BX:fH K "shut_by" "shut_by" lL uH)
  {me:Addr} (t5:W.nsIn K mainGlobals "open_worths"=some (some (.ref me)))
  (t6:fH K "open_worths" "open_worths" fh me)
  {oQ:Addr} (vZ:W.nsIn K mainGlobals "make_round"=some (some (.ref oQ)))
  (v5:fH K "make_round" "make_round" fS oQ)
  {oR:Addr} (v7:W.nsIn K mainGlobals "shut_pairs"=some (some (.ref oR)))
  (v8:fH K "shut_pairs" "shut_pairs" j5 oR)
  {uI:Addr} (BY:W.nsIn K mainGlobals "compare"=some (some (.ref uI)))
  (B0:fH K "compare" "compare" pT uI)
  {uJ:Addr} (B1:W.nsIn K mainGlobals "_law_at"=some (some (.ref uJ)))
  (B2:fH K "_law_at" "_law_at" pU uJ)
  {oS:Addr} (v9:W.nsIn K mainGlobals "_law_whole"=some (some (.ref oS)))
  (v_:fH K "_law_whole" "_law_whole" j6 oS)
  {qt:Addr} (xN:W.nsIn K mainGlobals "_law_bank"=some (some (.ref qt)))
  (xO:fH K "_law_bank" "_law_bank" kR qt)
  {qu:Addr} (xP:W.nsIn K mainGlobals "_law_book"=some (some (.ref qu)))
  (xQ:fH K "_law_book" "_law_book" kT qu)
  {oT:Addr} (wb:W.nsIn K mainGlobals "_law_quote"=some (some (.ref oT)))
  (wc:fH K "_law_quote" "_law_quote" h_ oT)
  {lr:Addr} (sU:W.nsIn K mainGlobals "_law_numbers"=some (some (.ref lr)))
  (sV:fH K "_law_numbers" "_law_numbers" fT lr)
  {qv:Addr} (xR:W.nsIn K mainGlobals "_law_near"=some (some (.ref qv)))
  (xS:fH K "_law_near" "_law_near" kU qv)
  {qw:Addr} (xT:W.nsIn K mainGlobals "_law_case"=some (some (.ref qw)))
  (xU:fH K "_law_case" "_law_case" kW qw)
  {qx:Addr} (ZM:W.nsIn K mainGlobals "_law_pair"=some (some (.ref qx)))
  (Zn:fH K "_law_pair" "_law_pair" kX qx)
  {oU:Addr} (we:W.nsIn K mainGlobals "_law_drawn"=some (some (.ref oU)))
  (wg:fH K "_law_drawn" "_law_drawn" ic oU)
  {oV:Addr} (wj:W.nsIn K mainGlobals "_law_worth"=some (some (.ref oV)))
  (wk:fH K "_law_worth" "_law_worth" j7 oV)
  {oW:Addr} (wm:W.nsIn K mainGlobals "_law_pairs"=some (some (.ref oW)))
  (wt:fH K "_law_pairs" "_law_pairs" j8 oW)
  {oX:Addr} (wu:W.nsIn K mainGlobals "_law_terms"=some (some (.ref oX)))
  (wz:fH K "_law_terms" "_law_terms" j9 oX)
  {qy:Addr} (ZX:W.nsIn K mainGlobals "_law_calm"=some (some (.ref qy)))
  (ZY:fH K "_law_calm" "_law_calm" kY qy)
  {oY:Addr} (wA:W.nsIn K mainGlobals "_law_asked"=some (some (.ref oY)))
  (wB:fH K "_law_asked" "_law_asked" j_ oY)
  {sW:Addr} (ZK:W.nsIn K mainGlobals "_law_met"=some (some (.ref sW)))
  (Zd:fH K "_law_met" "_law_met" iM sW)
  {HC:Addr} (Nr:W.nsIn K mainGlobals "law"=some (some (.ref HC)))
  (Nt:fH K "law" "law" sk HC)
  (Tc:Dd K aQ)
  (Rc:Af K az)
  (Fc:Hi K aH)
  (Gc:MF K aF)
  (Hc:Hm K ay)
  (zz:TZ K)
  {Zu:Tok} (ZD:W.nsIn K mainGlobals "WORD_MOST"=some (some (.int 12 Zu)))
  {wC:Tok} (wD:W.nsIn K mainGlobals "WORTH_MOST"=some (some (.int 999999 wC)))
  {ZS:Tok} (ZO:W.nsIn K mainGlobals "NEAR_MOST"=some (some (.int 60 ZS)))
  {Ze:Tok} (ZP:W.nsIn K mainGlobals "PART_MOST"=some (some (.int 100 Ze)))
  {qQ:Tok} (qR:W.nsIn K mainGlobals "FINDINGS_MOST"=some (some (.int 20 qQ)))
  {dO:Addr} (ZH:MU K "BadTerms" dO)
  {cO:Addr} (B4:MU K "BadNear" cO)
  {jG:Addr} (B5:MU K "TooMany" jG)
  (ZW:W.nsIn K mainGlobals "reversed"=some none)
  (Eu:W.nsIn K mainGlobals "sorted"=some none)
  :∃fd:FuncData,(∀(s:Shared)(v:Value),BindsTo s fd ⟨[v],[]⟩ [("_law_script",v)])∧∀base:Heap,K.In base→base.Ns mainGlobals mg→aZ l.prog w K mg base (de l.prog w) true 10 fa fd ["_law_script"] (YN K):=by
 have e:=WJ.symm.trans (W.mg_of X G Nr);cases e;have T:=zz.tb X G;have i5:Cu mg "WORD_MOST" (.int 12):=⟨_,W.mg_of X G ZD,_,rfl⟩
 have bJ:Cu mg "WORTH_MOST" (.int 999999):=⟨_,W.mg_of X G wD,_,rfl⟩
 have gR:Cu mg "NEAR_MOST" (.int 60):=⟨_,W.mg_of X G ZO,_,rfl⟩
 have i6:Cu mg "PART_MOST" (.int 100):=⟨_,W.mg_of X G ZP,_,rfl⟩
 have dU:Cu mg "FINDINGS_MOST" (.int 20):=⟨_,W.mg_of X G qR,_,rfl⟩
 have iO:=ZH.er X G;have bT:=B4.er X G;have jM:=B5.er X G;have Kg:mg "reversed"=none:=W.mg_none_of X G ZW;have iQ:mg "sorted"=none:=W.mg_none_of X G Eu;obtain @⟨_,k1,k2,k3,k4,k5,_,k6,_,l9,c9,k9⟩:=Nt;refine⟨W.fnOf "law" "law" (eW sk) (d0 sk) (aq sk) .none k1 k2 k3 k6 k4 k5,fun s v=> .of_eq rfl,fun base _ _=>?_⟩;have ed:=oA.df X G oz (fun _ F=>mH (P:=l.prog) (w:=w) (base:=base) T F) (BO fun _ _ _ _ _ _ _=>rfl);have jH:=BU.df X G BS (fun _ F=>ZG (P:=l.prog) (w:=w) (base:=base) T i5 ed F) (BO fun _ _ _ _ _ _ _=>rfl);have dP:=vV.df X G vU (fun _ F=>tF (P:=l.prog) (w:=w) (base:=base) T F) (X2 fun _ _ _ _ _ _ _ _ _=>rfl);have ck:=sL.df X G sJ (fun _ F=>qF (P:=l.prog) (w:=w) (base:=base) T dP iO F) (QD fun _ _ _ _ _ _ _ _ _ _=>rfl);have eh:=oE.df X G oC (fun _ F=>mJ (P:=l.prog) (w:=w) (base:=base) T dP bJ jH bT F) (X2 fun _ _ _ _ _ _ _ _ _=>rfl);have gF:=tU.df X G tT (fun _ F=>so (P:=l.prog) (w:=w) (base:=base) T bT gR eh F) (BO fun _ _ _ _ _ _ _=>rfl);have qf:=Z5 (st:=bg) pZ p4 p5;have qg:=nX (P:=l.prog) (w:=w) (base:=base) T bJ i6 ck gF Tc qf;have Zf:Binds K (W.fnOf "__init__" "Terms.__init__" (eW bg) (d0 bg) (aq bg) (.ref f6) jd je jf jc fZ jg) ["self","same","out","into","least","part","near"] []:=fun s us hK hl=>by
  obtain⟨_,_,_,_,_,_,_,rfl⟩:=QF.PQ us (by simpa using hl);exact BindsTo.of_defaults rfl (hK _ _ oF) rfl rfl rfl
 have n9:l5 l.prog w K mg base true 5 "Terms" aQ ["self","same","out","into","least","part","near"] [] (qX aQ dO cO):=Yt qg ⟨vT.b,pX,pY,vT.c⟩ (W.mg_of X G vT.a) Zf (.nil);have dR:=mS.mt Tc.cl mQ mR (fun _ F=>lR (P:=l.prog) (w:=w) (base:=base) T Tc F) (X2 fun _ _ _ _ _ _ _ _ _=>rfl);have eQ:=Zj.df X G ZJ (fun _ F=>xI (P:=l.prog) (w:=w) (base:=base) T F) (BO fun _ _ _ _ _ _ _=>rfl);have ka:=Kf.df X G Ke (fun _ F=>F_ (P:=l.prog) (w:=w) (base:=base) T F) (X8 fun _ _ _ _ _ _ _ _=>rfl);have dQ:=mU.df X G mT (fun _ F=>lT (P:=l.prog) (w:=w) (base:=base) T F) (X8 fun _ _ _ _ _ _ _ _=>rfl);have cq:=jP.mt Rc.cl jN jO (fun _ F=>jq (P:=l.prog) (w:=w) (base:=base) T eQ ka Rc F) (X2 fun _ _ _ _ _ _ _ _ _=>rfl);have lO:=oI.nw (W.mg_of X G sG.a) sG.b sG.c oG oH (fun _ F=>mK (P:=l.prog) (w:=w) (base:=base) T Tc Rc dQ cq F) (X2 fun _ _ _ _ _ _ _ _ _=>rfl);have bU:=p8.mt Rc.cl p6 p7 (fun _ F=>nY (P:=l.prog) (w:=w) (base:=base) T Rc F) (X8 fun _ _ _ _ _ _ _ _=>rfl);have a9:=ki.mt Rc.cl kg kh (fun _ F=>jK (P:=l.prog) (w:=w) (base:=base) T Rc F) (X2 fun _ _ _ _ _ _ _ _ _=>rfl);have aV:=iX.mt Rc.cl iV iW (fun _ F=>iP (P:=l.prog) (w:=w) (base:=base) T ka Rc F) (X8 fun _ _ _ _ _ _ _ _=>rfl);have cW:=lg.mt Rc.cl la lb (fun _ F=>kz (P:=l.prog) (w:=w) (base:=base) T Rc a9 aV F) (X8 fun _ _ _ _ _ _ _ _=>rfl);have fq:=qO.mt Rc.cl qM qN (fun _ F=>pV (P:=l.prog) (w:=w) (base:=base) T Rc bU cW F) (X8 fun _ _ _ _ _ _ _ _=>rfl);have kb:=mY.nw (W.mg_of X G pW.a) pW.b pW.c mV mW (fun _ F=>lV (P:=l.prog) (w:=w) (base:=base) T Fc F) (Sl fun _ _ _ _ _ _ _ _ _ _ _=>rfl);have kc:=Z_.df X G ZR (fun _ F=>xK (P:=l.prog) (w:=w) (base:=base) T Fc F) (BO fun _ _ _ _ _ _ _=>rfl);have fV:=sP.df X G sO (fun _ F=>qJ (P:=l.prog) (w:=w) (base:=base) T Rc fq kb F) (X2 fun _ _ _ _ _ _ _ _ _=>rfl);have lM:=oM.nw (W.mg_of X G sI.a) sI.b sI.c oJ oK (fun _ F=>mM (P:=l.prog) (w:=w) (base:=base) T Gc F) (BO fun _ _ _ _ _ _ _=>rfl);have ie:=vY.mt Gc.cl vW vX (fun _ F=>tH (P:=l.prog) (w:=w) (base:=base) T Gc F) (X8 fun _ _ _ _ _ _ _ _=>rfl);have bV:=qb.mt Gc.cl p9 p_ (fun _ F=>n5 (P:=l.prog) (w:=w) (base:=base) T Gc F) (X8 fun _ _ _ _ _ _ _ _=>rfl);have cI:=sT.mt Gc.cl sQ sR (fun _ F=>qK (P:=l.prog) (w:=w) (base:=base) T Gc F) (X2 fun _ _ _ _ _ _ _ _ _=>rfl);have gG:=tX.mt Gc.cl tV tW (fun _ F=>su (P:=l.prog) (w:=w) (base:=base) T Gc iQ F) (BO fun _ _ _ _ _ _ _=>rfl);have ig:=lq.nw (W.mg_of X G k8.a) k8.b k8.c ll lp (fun _ F=>kD (P:=l.prog) (w:=w) (base:=base) T lM Hc F) (X2 fun _ _ _ _ _ _ _ _ _=>rfl);have bW:=qe.mt Hc.cl qc qd (fun _ F=>n8 (P:=l.prog) (w:=w) (base:=base) T Hc cI F) (X2 fun _ _ _ _ _ _ _ _ _=>rfl);have dw:=lY.mt Hc.cl lW lX (fun _ F=>kZ (P:=l.prog) (w:=w) (base:=base) T a9 aV Hc cI bV bW F) (X2 fun _ _ _ _ _ _ _ _ _=>rfl);have eA:=oP.mt Hc.cl oN oO (fun _ F=>mO (P:=l.prog) (w:=w) (base:=base) T Rc bU Hc bV bW ie dw F) (X2 fun _ _ _ _ _ _ _ _ _=>rfl);have gH:=tZ.df X G tY (fun _ F=>sD (P:=l.prog) (w:=w) (base:=base) T Rc Hc ig eA gG F) (X8 fun _ _ _ _ _ _ _ _=>rfl);have lN:=BX.df X G BV (fun _ F=>Zw (P:=l.prog) (w:=w) (base:=base) T F) (BO fun _ _ _ _ _ _ _=>rfl);have gJ:=t6.df X G t5 (fun _ F=>sE (P:=l.prog) (w:=w) (base:=base) T Tc lN dR F) (QD fun _ _ _ _ _ _ _ _ _ _=>rfl);have fW:=v5.df X G vZ (fun _ F=>tI (P:=l.prog) (w:=w) (base:=base) T Tc eQ Rc lO gH fV F) (X8 fun _ _ _ _ _ _ _ _=>rfl);have ij:=v8.df X G v7 (fun _ F=>tJ (P:=l.prog) (w:=w) (base:=base) T Fc F) (X8 fun _ _ _ _ _ _ _ _=>rfl);have lP:=B0.df X G BY (fun _ F=>Zs (P:=l.prog) (w:=w) (base:=base) T iQ dU gJ fW ij kc jM F) (X2 fun _ _ _ _ _ _ _ _ _=>rfl);have aX:=B2.df X G B1 (fun _ F=>ZF (P:=l.prog) (w:=w) (base:=base) T F) (X8 fun _ _ _ _ _ _ _ _=>rfl);have cZ:=v_.df X G v9 (fun _ F=>tL (P:=l.prog) (w:=w) (base:=base) T F) (BO fun _ _ _ _ _ _ _=>rfl);have i8:=xO.df X G xN (fun _ F=>vN (P:=l.prog) (w:=w) (base:=base) T F) (X2 fun _ _ _ _ _ _ _ _ _=>rfl);have i9:=xQ.df X G xP (fun _ F=>vO (P:=l.prog) (w:=w) (base:=base) T aX F) (Sl fun _ _ _ _ _ _ _ _ _ _ _=>rfl);have ik:=wc.df X G wb (fun _ F=>tM (P:=l.prog) (w:=w) (base:=base) T aX F) (Vq fun _ _ _ _ _ _ _ _ _ _ _ _=>rfl);have fY:=sV.df X G sU (fun _ F=>qL (P:=l.prog) (w:=w) (base:=base) T aX F) (X8 fun _ _ _ _ _ _ _ _=>rfl);have i_:=xS.df X G xR (fun _ F=>vP (P:=l.prog) (w:=w) (base:=base) T F) (X2 fun _ _ _ _ _ _ _ _ _=>rfl);have ja:=xU.df X G xT (fun _ F=>vQ (P:=l.prog) (w:=w) (base:=base) T aX i8 i9 ik fY i_ F) (X8 fun _ _ _ _ _ _ _ _=>rfl);have cB:=Zn.df X G ZM (fun _ F=>vR (P:=l.prog) (w:=w) (base:=base) T F) (QD fun _ _ _ _ _ _ _ _ _ _=>rfl);have iq:=wg.df X G we (fun _ F=>tN (P:=l.prog) (w:=w) (base:=base) T cB F) (X8 fun _ _ _ _ _ _ _ _=>rfl);have iy:=wk.df X G wj (fun _ F=>tO (P:=l.prog) (w:=w) (base:=base) T cB F) (X8 fun _ _ _ _ _ _ _ _=>rfl);have iu:=wt.df X G wm (fun _ F=>tP (P:=l.prog) (w:=w) (base:=base) T cZ F) (BO fun _ _ _ _ _ _ _=>rfl);have ip:=wz.df X G wu (fun _ F=>tQ (P:=l.prog) (w:=w) (base:=base) T n9 F) (BO fun _ _ _ _ _ _ _=>rfl);have jb:=ZY.df X G ZX (fun _ F=>vS (P:=l.prog) (w:=w) (base:=base) T cB F) (BO fun _ _ _ _ _ _ _=>rfl);have ir:=wB.df X G wA (fun _ F=>tS (P:=l.prog) (w:=w) (base:=base) T lP ip F) (BO fun _ _ _ _ _ _ _=>rfl);have ke:=Zd.df X G ZK (fun _ F=>xM (P:=l.prog) (w:=w) (base:=base) T Fc F) (X2 fun _ _ _ _ _ _ _ _ _=>rfl);exact Kd T Fc aX cZ ja jb iq ir iu iy ke (CU (st:=sk) l9 c9 k9)
theorem walk{l:W.OpenLaw}{q:Program}{loose:List Str}{XP:(Str→Option Value)→Heap→Prop}{YP:World→Heap→Prop}{d:DefRec}{K:Params→W.Frag}(hn:l.most=some 63)(LP:d.params.defaults=[])
  (hY:∀(w:World)(h:Heap),YP w h→(K w.params).In h)
  (F:∀(w:World)(mg:Str→Option Value)(fa:Addr)(h:Heap),(K w.params).In h→h.Ns mainGlobals mg→mg d.name=some (.ref fa)→
   ∃fd:FuncData,(∀(s:Shared)(u:Value),BindsTo s fd ⟨[u],[]⟩ [("_law_script",u)])∧∀base:Heap,(K w.params).In base→base.Ns mainGlobals mg→aZ l.prog w (K w.params) mg base (de l.prog w) true 10 fa fd ["_law_script"] (YN (K w.params))):
  W.WalkO q loose XP YP l.row.toRowW d [] (fun f vs=>PySem.call f vs):=
 L2.Fb (n:=63) (k:=10) (x:="_law_script") (CX:=fun w=>de l.prog w) (sp:=fun w=>YN (K w.params)) hn (XU) LP ⟨(fun _=>rfl),XU,XU⟩ hY F (fun _ _ a ns hl _ hS=>⟨a,ns,rfl,hS,hl,fun _=>rfl⟩) fun _ _ _ _ _ z=>by obtain⟨_,_,_,_,_,_,_,_,_,_,_,_,_,z⟩:=z;exact z
end QE
open PySem PySem.W PyProof.Rows
set_option maxRecDepth 100000 in
set_option maxHeartbeats 0 in
theorem PySem.Challenge.cw_quotefind_k19_all_found_holds : PySem.Challenge.rw_quotefind_k19_all_found.Holds := by
 w_on;refine holds_law HD.ws fun said=>?_;k_head
 (case hw=>w_witness2)
 refine QE.walk (l:=PySem.Challenge.rw_quotefind_k19_all_found) rfl rfl (fun w h Y=>PySem.W.kIn_of Y) ?F
 case F=>
  intro w mg fa h KX G LQ
  refine' QE.all_mk KX G LQ ?_ ?_ ?_ ?_ ?_ ?_ ?_ ?_ ?_ ?_ ?_ ?_ ?_ ?_ ?_ ?_ ?_ ?_ ?_ ?_ ?_ ?_ ?_ ?_ ?_ ?_ ?_ ?_ ?_ ?_ ?_ ?_ ?_ ?_ ?_ ?_ ?_ ?_ ?_ ?_ ?_ ?_ ?_ ?_ ?_ ?_ ?_ ?_ ?_ ?_ ?_ ?_ ?_ ?_ ?_ ?_ ?_ ?_ ?_ ?_ ?_ ?_ ?_ ?_ ?_ ?_ ?_ ?_ ?_ ?_ ?_ ?_ ?_ ?_ ?_ ?_ ?_ ?_ ?_ ?_ ?_ ?_ ?_ ?_ ?_ ?_ ?_ ?_ ?_ ?_ ?_ ?_ ?_ ?_ ?_ ?_ ?_ ?_ ?_ ?_ ?_ ?_ ?_ ?_ ?_ ?_ ?_ ?_ ?_ ?_ ?_ ?_ ?_ ?_ ?_ ?_ ?_ ?_ ?_ ?_ ?_ ?_ ?_ ?_ ?_ ?_ ?_ ?_ ?_ ?_ ?_ ?_ ?_ ?_ ?_ ?_ ?_ ?_ ?_ ?_ ?_ ?_ ?_ ?_ ?_ ?_ ?_ ?_ ?_
  all_goals first|k_is|(show(_:Prop);constructor<;>first|(show _=_;k_is)|k_exc|(constructor<;>(show _=_;k_is)))|skip
#print axioms PySem.Challenge.cw_quotefind_k19_all_found_holds
