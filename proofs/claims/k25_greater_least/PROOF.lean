import PyProof.Rows.All
import Wide.All
import OpenK.AllK
import Wide.FinOn
import Lean
import PyProof.EqAt
import PyProof.EqKinds
import PyProof.TupleCall
import PySem.Challenge.RW_quotefind_k25_greater_least
set_option Elab.async false
set_option linter.all false
set_option maxRecDepth 100000
set_option hygiene false in
local macro_rules
|`(tactic|o_head $H)=>`(tactic|refine holds_open (q:=HD.q HD.pw) (loose:=HD.loose) (Xt:=HD.Xt HD.pw []) (XP:=XL (HD.q HD.pw) []) (Yf:=Hook.obs $H) (Ya:=Hook.val $H) (YP:=Hook.says $H) (d:=HD.d) (kwd:=[]) (N:=HD.Jg) (HD.left HD.pw HD.Vs $H fun w os=>by kernel_rfl) (Hook.of $H) (Hook.keeps $H) (fun s e=>xl_of s (Bool.and_eq_true_iff.mp e).1) XL.keeps (by kernel_rfl) (by kernel_rfl) (by kernel_rfl) (fun s e=>recFacts_of (Bool.and_eq_true_iff.mp e).2) (by rfl) (by assumption) (by decide+kernel) ⟨rfl,rfl,rfl,rfl,rfl,by decide+kernel⟩ ?hw ?hc)
|`(Y3 $a $b $c)=>`(@aG _ _ $a _ _ _ _ $b (by exact rfl) (Or.inl rfl) $c (by rfl) (by exact .inl rfl))
|`(Y4 $a)=>`(@aj _ _ _ _ _ $a ai (by rfl))
|`(Y5 $a $b $c)=>`(@aM _ _ _ _ _ _ _ _ _ _ _ _ $a (hr.mono (by decide)) $b $c (by rfl) (by decide) (by rfl) (by rfl))
|`(Y6 $a $b)=>`(@aN _ _ $a _ $b (by exact rfl) (Or.inl rfl) (by first|exact .inl rfl|exact .inr rfl|assumption))
|`(Y7 $a $b)=>`(@aB _ _ _ _ _ _ _ (ao K) $a $b (fun _ _=>rfl))
|`(Y8 $a $b)=>`(@aj _ _ _ _ _ $a $b (by rfl))
|`(Y9 $a $b $c)=>`(@aO _ _ _ _ _ _ _ _ _ $a (by exact rfl) $b PyProof.Rows.Boot.«len» $c (by decide) (by decide) (by rfl) (by rfl))
|`(Y_ $a $b)=>`(@aC _ $a _ _ _ _ $b (by rfl) (by rfl))
|`(Y' $a)=>`(List.getElem?_eq_some_iff.mp $a)
|`(Za $a $b $c)=>`(@aH _ _ _ _ _ _ _ _ $a $b $c)
|`(Zb $a $b)=>`(@aM _ _ _ _ _ _ _ _ _ _ _ _ $a (hr.mono (by decide)) $b (@aj _ _ _ _ _ (pv 0) (@aj _ _ _ _ _ af ai (by rfl)) (by rfl)) (by rfl) (by decide) (by rfl) (by rfl))
|`(Zc $a)=>`(@aB _ _ _ _ _ _ _ (ao K) (@aB _ _ _ _ _ _ _ (ao K) (pv 0) af (fun _ _=>rfl)) $a (fun _ _=>rfl))
|`(Zd $a $b $c $d $e $f $g)=>`(@eY _ $a _ _ _ _ _ _ _ _ _ _ _ $b $c $d $e $f $g (by rfl) (by rfl) (by rfl) (by rfl) (by rfl) (by rfl))
|`(Ze $a $b)=>`(@av _ _ _ _ _ $a $b)
|`(Zf $a)=>`(@eC _ _ _ _ _ _ $a (by first|exact bh _ (by decide) (by decide)|rfl))
|`(Zg $a $b $c $d $e)=>`(@bL _ _ _ _ _ _ _ _ _ _ _ _ _ _ _ _ $a $b $c $d $e (by rfl) (by rfl) (by rfl))
|`(Zh $a)=>`(@aq _ _ _ $a)
|`(Zi $a $b $c $d)=>`(@aO _ _ _ _ _ _ _ _ _ $a (by exact rfl) $b $c $d (by decide) (by decide) (by rfl) (by rfl))
|`(Zj $a $b $c)=>`(@a7 _ _ _ _ _ _ _ _ $a $b $c)
|`(Zk $a)=>`(List.mem_of_getElem? $a)
|`(Zl $a $b)=>`(@aF _ _ _ _ _ $a $b)
|`(Zm $a)=>`(if_neg $a)
|`(Zn $a)=>`(Heap.get?_push_of_some _ $a)
|`(Zo $a $b $c $d)=>`(@aS _ _ _ _ _ _ _ _ $a $b $c $d)
|`(Zp $a)=>`(if_pos $a)
|`(Zq $a $b $c)=>`(@cq _ $a _ _ _ _ _ _ _ $b $c (by rfl) (by rfl))
|`(Zr $a $b $c)=>`(@aB _ _ _ _ _ _ _ $a $b $c (fun _ _=>rfl))
|`(Zs $a)=>`(@aL _ _ _ _ $a)
|`(Zt $a)=>`(Option.some.inj $a)
set_option hygiene false in
local macro_rules
|`(Zu)=>`((by simp))
|`(Zv)=>`((fun vs H Q E h=>?_))
|`(Zw)=>`((by omega))
|`(Zx)=>`((by lia))
|`(Zy)=>`((by exact rfl))
|`(Zz)=>`(by omega)
|`(ZA)=>`(by decide)
|`(ZC)=>`(by rfl)
|`(ZD)=>`(by simp)
set_option maxHeartbeats 4000000
namespace HD
open PySem PySem.W PyProof.Rows
noncomputable section
noncomputable abbrev pw:Program:=PySem.Challenge.pw_quotefind_k25_greater_least
noncomputable abbrev pq:Program:=pw
theorem Vs:pw=pq:=rfl
def z0:Str:=⟨⟨[60,109,111,100,117,108,101,62]⟩⟩
def z1:Str:=⟨⟨[95,95,109,97,105,110,95,95]⟩⟩
def Th:Str:=⟨⟨[47,99,108,97,105,109,47,99,117,116,46,112,121]⟩⟩
noncomputable abbrev y0:String:=PySem.W.SL.s658472552662922059x5
noncomputable abbrev Vt:String:=PySem.W.SL.s5856160107412720595x4
noncomputable abbrev R(a:Addr):Value:= .ref a
noncomputable abbrev I(i:Int):Value:= .int i 0
noncomputable abbrev N:Value:= .none
noncomputable abbrev U(v:Value):Option Value:=some v
noncomputable abbrev B:=BT.node
noncomputable abbrev L:=BT.nil
noncomputable abbrev tu(l:List Value):Obj:=⟨.type "tuple",none, .seq ⟨l⟩ 0,⟨[]⟩⟩
noncomputable abbrev fi(l:List Value):Obj:=⟨.none,none, .fields ⟨l⟩,⟨[]⟩⟩
noncomputable abbrev cd(n:Str)(t:Nat)(l a f:Int)(r8:Addr)(b:Bool)(Vu:Addr)(Vv Vw Vx:Value)(t3:Int)(t4:Nat):Obj:=⟨.type Vt,none, .fields ⟨[.str n t, .str n (t+1), .str Th (t+2),I l,I a,I 0,I 0,I f,R r8, .bool b,I 181,R Vu,N,Vv,Vw,Vx,I t3,I l, .str Th t4]⟩,⟨[]⟩⟩
noncomputable def tp(p:Program)(i:Nat):Stmt:=p.main.body.getD i (.Pass ⟨0,0,0,0⟩)
noncomputable def b0(_:Program)(P:Params):Obj:=PySem.W.boot_o_0 P
noncomputable def b1(_:Program)(P:Params):Obj:=PySem.W.boot_o_1 P
noncomputable def b2(_:Program)(P:Params):Obj:=PySem.W.boot_o_2 P
noncomputable def b3(_:Program)(P:Params):Obj:=PySem.W.boot_o_3 P
noncomputable def b4(_:Program)(P:Params):Obj:=PySem.W.boot_o_4 P
noncomputable def b5(_:Program)(P:Params):Obj:=PySem.W.boot_o_5 P
noncomputable def b6(_:Program)(P:Params):Obj:=PySem.W.boot_o_6 P
noncomputable def b7(_:Program)(P:Params):Obj:=PySem.W.boot_o_7 P
noncomputable def b8(_:Program)(P:Params):Obj:=PySem.W.boot_o_8 P
noncomputable def b9(_:Program)(P:Params):Obj:=PySem.W.boot_o_9 P
noncomputable def Ti(_:Program)(P:Params):Obj:=PySem.W.boot_o_10 P
noncomputable def Tj(p:Program)(P:Params):Obj:=tu []
noncomputable def Tn(p:Program)(P:Params):Obj:=fi []
noncomputable def To(p:Program)(P:Params):Obj:=cd z0 182 1 0 0 11 false 12 N N N 185 186
noncomputable def Tp(p:Program)(P:Params):Obj:=⟨(.type y0),none,.plain,⟨[U (R 13),U (R 3),U (R 3),none,U (.str z1 164),none,U (R 0)]⟩⟩
noncomputable def La(p:Program)(P:Params):List Obj:=[b0 p P,b1 p P,b2 p P,b3 p P,b4 p P,b5 p P,b6 p P,b7 p P,b8 p P,b9 p P,Ti p P,Tj p P,Tn p P,To p P,Tp p P]
noncomputable def Ta(p:Program)(P:Params):BT:=(B (b0 p P) (B (b1 p P) (B (b3 p P) (B (b7 p P) L L) (B (Tj p P) L L)) (B (b5 p P) (B (b9 p P) L L) (B (To p P) L L))) (B (b2 p P) (B (b4 p P) (B (b8 p P) L L) (B (Tn p P) L L)) (B (b6 p P) (B (Ti p P) L L) (B (Tp p P) L L))))
noncomputable def keep:List Nat:=[0,2,3,4,5,7,8,9,11,12,13,14,16,17,19,20,21,22,23,24,25,27,28,29,31,32,33,34,35,36,37,38,40,41,42,43,44,45,46,47,48,49,50,51,52,53,54,55,56,57,58,59]
noncomputable def loose:List Str:=[]
noncomputable def env(p:Program):Env:={scope:=p.main.scope,locals:=mainNs,globals:=mainNs,cells:=[],code:=(R 13),frame:=some 14}
noncomputable def cE(p:Program):Code:= .body (behindTheImports p) (env p)
noncomputable def qP:Pos:=⟨0,0,0,0⟩
noncomputable def pP:Pos:=⟨0,0,0,0⟩
noncomputable def bP:Pos:=⟨0,0,0,0⟩
noncomputable def fP:Pos:=⟨425,0,440,47⟩
noncomputable def an:Option Value:=(some (R 6))
noncomputable abbrev Mg:Nat:=59
noncomputable abbrev m0:Nat:=11
noncomputable abbrev Mh:Nat:=12
noncomputable abbrev Mi:Nat:=1
noncomputable abbrev Je:Nat:=3768
noncomputable abbrev Jf:Nat:=2
noncomputable abbrev Jg:Nat:=8260
noncomputable abbrev nA:Nat:=15
noncomputable abbrev Vy:Nat:=187
noncomputable abbrev Vz:Nat:=187
end
end HD
namespace HD
open PySem PySem.W PyProof.Rows
noncomputable section
abbrev S0(w:World)(os:OsState):Shared:=⟨boot_heap w.params,⟨[]⟩,boot_drawn,boot_toks,os⟩
abbrev Sa(p:Program)(w:World)(os:OsState):Shared:=⟨⟨⟨La p w.params⟩,{}⟩,⟨[]⟩,{},Vy,os⟩
abbrev Sb(p:Program)(w:World)(os:OsState):SharedT:=⟨Ta p w.params,nA,{},⟨[]⟩,{},Vz,os⟩
abbrev q(p:Program):Program:=view p keep
abbrev Xt(p:Program)(R:WRecords):Shared→Bool:=fun s=>xlAt (q p) [] s&&recOk R s
theorem Mj(w:World)(os:OsState):topGo treeTable pq w m0 an Mh (S0 w os) (topStub pq)=some (Sa pq w os,⟨denote treeTable (cE pq),cE pq,pP,[topFrame qP]⟩):=by
 rewrite[Fast.te15667345088766844465,Fast.te14364793385576792824,Fast.te11892475500146522536];kernel_rfl
theorem Ml(w:World)(os:OsState):segRun treeTable pq w m0 an 1 Mi (Sa pq w os) (blockOf (behindTheImports pq) (env pq) (cE pq) pP [topFrame qP])=some (.next,(Sb pq w os).abs,cE pq,bP):=by
 rewrite[Fast.te14374325043358763698,Fast.te14364793385576792824];kernel_rfl
def Rm(w:World)(os:OsState):=Fast.tw10110043849684766642 Fast.tw14364793385576792824 pq w m0 an 1 Je (Sb pq w os) (piecesOf (behindTheImports pq) (env pq) (cE pq) bP [topFrame qP])
def Sm(w:World)(os:OsState):SharedT:=match Rm w os with|some (_,s,_,_)=>s|none=>Sb pq w os
theorem Mm(w:World)(os:OsState):segRunT treeTable pq w m0 an 1 Je (Sb pq w os) (piecesOf (behindTheImports pq) (env pq) (cE pq) bP [topFrame qP])=some (.next,Sm w os,cE pq,fP):=by
 rewrite[Fast.te10110043849684766642,Fast.te14364793385576792824];kernel_rfl
def Rf(w:World)(os:OsState):=Fast.tw14082659384304107361 Fast.tw14364793385576792824 pq w m0 an Jf (Sm w os).abs ⟨doneF .next,cE pq,fP,[topFrame qP]⟩
def Sf(w:World)(os:OsState):Shared:=match Rf w os with|some s=>s|none=>S0 w os
theorem Mn(w:World)(os:OsState):topRun treeTable pq w m0 an Jf (Sm w os).abs ⟨doneF .next,cE pq,fP,[topFrame qP]⟩=some (Sf w os):=by
 rewrite[Fast.te14082659384304107361,Fast.te14364793385576792824];kernel_rfl
theorem Jh(w:World):((boot_heap w.params).isNs mainGlobals&&(⟨[]⟩:Array GenState).size==0,(boot_heap w.params).objs.size,(boot_heap w.params).nsMap mainGlobals "__annotations__")=(true,m0,an):=by
 rewrite[Fast.te8920871248978507458];kernel_rfl
theorem Ji:∀w:World,(fencedOpening treeTable pq w Jg).map (fun s=>(s.heap,s.gens,s.drawn,s.toks))=some (boot_heap w.params,⟨[]⟩,boot_drawn,boot_toks):=
 boot_open (by kernel_rfl) (by kernel_rfl) (fun s=>by kernel_rfl)
theorem Mo(w:World)(os:OsState):topRun treeTable pq w m0 an (Mh+(Mi+(Je+Jf))) (S0 w os) (topStub pq)=some (Sf w os):=by
 refine go_top (Mj w os) (piece_block (Ml w os) ?_);have h:=piece_app (rest:=[]) (segRun_of (Mm w os)) (piece_nil (env:=env pq) (Mn w os));rw[List.append_nil]at h;exact h
theorem Ds(w:World)(os:OsState):
 (staticsOk (importedModules pq.main.body) (boot_heap w.params) (Sf w os).heap&&namesBound pq (Sf w os).heap&&gensDone (Sf w os)&&laidKept (boot_heap w.params) (Sf w os).heap)=true
 ∧seen ((recsOf (q pq)).map (·.name)) (ownsOf (q pq)) [] {Sf w os with gens:=#[]}=expectedOf (q pq)
 ∧(Sf w os).heap.bltView=bltViewBooted:=by
 refine⟨?_,?_,?_⟩
 ·rewrite[Fast.te5923862056798008813];kernel_rfl
 ·rewrite[Fast.te5160383126252970620,Fast.te3399658132070893891,Fast.te5991557255702980513];kernel_rfl
 ·kernel_rfl
theorem Jj(w:World)(os:OsState):
 ((Sf w os).heap.keysOk (looseW (q pq) loose) ((recsOf (q pq)).map (·.name)) ((litsOf (q pq)).map (·.1)) ((clssOf (q pq) (looseW (q pq) loose)).map (·.name))&&(Sf w os).heap.accountedOkI (importedModules pq.main.body)&&(Sf w os).heap.isNs mainGlobals&&(Sf w os).heap.isNs builtinsNs&&tablesOk (q pq) (Sf w os).heap&&Xt pq [] (Sf w os)&&(if true then(Sf w os).gens.size==0 else !leftWithCleanup (Sf w os).gens))=true:=by
 rewrite[Fast.te10880121769531294198,Fast.te821141287760084731,Fast.te3399658132070893891,Fast.te7409074990110511671,Fast.te13664370479719496447,Fast.te14722251495701143533,Fast.te5923862056798008813,Fast.te10994771534591457954];kernel_rfl
theorem Jk(w:World)(os:OsState):
 tabsOk (q pq) (Sf w os)=true
 ∧pinSeenD (q pq) (drecsOf (q pq)) (Sf w os)=pinGoodD (drecsOf (q pq))
 ∧plainSeenE (q pq) (looseW (q pq) loose) (Sf w os)=plainGoodE (q pq) (looseW (q pq) loose)
 ∧plainSeenD (q pq) loose (Sf w os)=plainGoodD (q pq) loose
 ∧wideSeen (q pq) (Sf w os)=wideGood (q pq)
 ∧clsSeenW (q pq) loose (Sf w os)=clsGoodW (q pq) loose:=by
 refine⟨?_,?_,?_,?_,?_,?_⟩
 ·rewrite[Fast.te479339242167458305];kernel_rfl
 ·rewrite[Fast.te16090120013241838585,Fast.te3247288618530077131];kernel_rfl
 ·rewrite[Fast.te2386780881361962483,Fast.te821141287760084731];kernel_rfl
 ·rewrite[Fast.te11698064438423848299];kernel_rfl
 ·rewrite[Fast.te7317090234206586261];kernel_rfl
 ·rewrite[Fast.te7369524293546568484];kernel_rfl
theorem lx{p q:Program}{lo:List Str}{Xt:Shared→Bool}{α:Type}{Yf:Shared→α}{a:α}{w:World}{N M n:Nat}{h:Heap}{gs:Array GenState}{dr:Drawn}{k:Nat}{an:Option Value}{g:OsState→Shared}
  (o:(fencedOpening treeTable p w N).map (fun s=>(s.heap,s.gens,s.drawn,s.toks))=some (h,gs,dr,k)) (z:(h.isNs mainGlobals&&gs.size==0,h.objs.size,h.nsMap mainGlobals "__annotations__")=(true,n,an))
  (r:∀os,topRun treeTable p w n an M ⟨h,gs,dr,k,os⟩ (topStub p)=some (g os)) (le:M≤N) (x1:∀os,(staticsOk (importedModules p.main.body) h (g os).heap&&namesBound p (g os).heap&&gensDone (g os)&&laidKept h (g os).heap)=true)
  (x2:∀os,openSeen q lo (importedModules p.main.body) Xt true (g os)=openGood q lo) (x3:∀os,Yf (g os)=a):(openEnds treeTable p w N).map (fun s=>(openSeen q lo (importedModules p.main.body) Xt true s,Yf s))=some (openGood q lo,a):=by
 obtain⟨⟨h,gs,dr,k,os⟩,e1,e2⟩:=Option.map_eq_some_iff.mp o;cases e2;obtain⟨y1,y2⟩:=Prod.mk.inj z;obtain⟨y2,y3⟩:=Prod.mk.inj y2;have t:=topRun_mono (N-M) _ _ _ _ (r os);rw[Nat.add_sub_cancel' le]at t;have f:topFrom treeTable p w N ⟨h,gs,dr,k,os⟩=some (g os):=by
  unfold topFrom;dsimp only;rw[y1,y2,y3,t];show(match staticsOk _ h (g os).heap&&namesBound p (g os).heap&&gensDone (g os)&&laidKept h (g os).heap with|true=>_|false=>_)=_;rw[x1 os]
 unfold openEnds;rw[e1,Option.bind_some,f];exact congrArg some (Prod.ext (x2 os) (x3 os))
theorem left(p:Program)(e:p=pq)(H:Hook)(hk:∀w os,H.obs (Sf w os)=H.val w):LeftO p (q p) loose (Xt p []) H.obs H.val Jg:=by
 subst e;intro w;exact lx (g:=Sf w) (Ji w) (Jh w) (Mo w) (ZA) (fun os=>(Ds w os).1) (fun os=>let ⟨_,x2,x3⟩:=Ds w os;let ⟨x5,x6,x7,x8,x9,x0⟩:=Jk w os;looks_pair x2 (looks_pair x3 (looks_pair (Jj w os) (looks_pair x5 (looks_pair x6 (looks_pair x7 (looks_pair x8 (looks_pair x9 x0)))))))) (hk w)
def d:DefRec:=match tp pw Mg with
 | .FunctionDef n a b _ _ _ sc _ _ ps=>⟨n,a,b,sc,ps⟩
 | _=>⟨Str.empty,default,[],default,default⟩
end
end HD
namespace HD
theorem ws:PySem.W.OpenLaw.wellSaid PySem.Challenge.rw_quotefind_k25_greater_least=true:=by
 rewrite[PySem.W.Fast.te9446332074065402090];kernel_rfl
end HD
namespace L2
open PySem PySem.Spec PyProof.Rows
abbrev Key:=Sum Int Str
def u0:Key→Value→Bool
 | .inl k,v=>Value.isInt k v
 | .inr x,v=>Value.isStrOf x v
def Qi(w:World):Key→Int
 | .inl k=>hashInt k
 | .inr x=>hashStr w x
theorem cT:∀{k:Key}{v:Value},u0 k v=true→(∃i t,k=Sum.inl i∧v=Value.int i t)∨(∃x t,k=Sum.inr x∧v=Value.str x t)
 | .inl i,v,h=>by
  obtain⟨t,e⟩:=Value.isInt_shape (k:=i) (v:=v) h;exact .inl ⟨i,t,rfl,e⟩
 | .inr x,v,h=>by
  obtain⟨t,e⟩:=Value.isStrOf_shape (x:=x) (v:=v) h;exact .inr ⟨x,t,rfl,e⟩
theorem BM(i:Int)(t:Tok):u0 (.inl i) (.int i t)=true:=by simp[u0,Value.isInt]
theorem BN(x:Str)(t:Tok):u0 (.inr x) (.str x t)=true:=by simp[u0,Value.isStrOf]
theorem Jl(a b:Int):decide ((Sum.inl a:Key)=Sum.inl b)=(a==b):=by
 by_cases e:a=b
 ·subst e;simp
 ·have h:¬(Sum.inl a:Key)=Sum.inl b:=fun q=>e (Sum.inl.inj q)
  rw[decide_eq_false h];exact(beq_eq_false_iff_ne.mpr e).symm
theorem Jm(a b:Str):decide ((Sum.inr a:Key)=Sum.inr b)=decide (a=b):=by
 by_cases e:a=b
 ·subst e;simp
 ·have h:¬(Sum.inr a:Key)=Sum.inr b:=fun q=>e (Sum.inr.inj q)
  rw[decide_eq_false h,decide_eq_false e]
theorem Jn(a:Int)(b:Str):decide ((Sum.inl a:Key)=Sum.inr b)=false:=decide_eq_false (fun q=>nomatch q)
theorem Jo(a:Str)(b:Int):decide ((Sum.inr a:Key)=Sum.inl b)=false:=decide_eq_false (fun q=>nomatch q)
def cU(prog:Program)(w:World):PySem.KeyKind prog w Key where
 is:=u0
 hash:=Qi w
 inj:=fun v a b ha hb=>by
  rcases cT ha with⟨i,t,rfl,rfl⟩|⟨x,t,rfl,rfl⟩
  ·rcases cT hb with⟨j,u,rfl,e⟩|⟨y,u,rfl,e⟩
   ·injection e with e1 _;rw[e1]
   ·exact nomatch e
  ·rcases cT hb with⟨j,u,rfl,e⟩|⟨y,u,rfl,e⟩
   ·exact nomatch e
   ·injection e with e1 _;rw[e1]
 byValue:=fun k v h=>by
  rcases cT h with⟨i,t,rfl,rfl⟩|⟨x,t,rfl,rfl⟩<;>rfl
 pyHash:=fun hv h=>by
  rcases cT hv with⟨i,t,rfl,rfl⟩|⟨x,t,rfl,rfl⟩
  ·exact wpAny_pyHash_int h
  ·exact wpAny_pyHash_str h
 eqBool:=fun hu hv h=>by
  rcases cT hu with⟨i,t,rfl,rfl⟩|⟨x,t,rfl,rfl⟩
  ·rcases cT hv with⟨j,u,rfl,rfl⟩|⟨y,u,rfl,rfl⟩
   ·rw[Jl]at h;exact wpAny_eqBool_int h
   ·rw[Jn]at h;exact SeqAt.EqAt.int_str i t y u _ _ _ _ h
  ·rcases cT hv with⟨j,u,rfl,rfl⟩|⟨y,u,rfl,rfl⟩
   ·rw[Jo]at h;exact SeqAt.EqAt.str_int x t j u _ _ _ _ h
   ·rw[Jm]at h;exact wpAny_eqBool_str h
 «strs»:=fun k x t v h=>by
  rcases cT h with⟨i,u,rfl,e⟩|⟨y,u,rfl,e⟩
  ·exact nomatch e
  ·injection e with e1 _;subst e1;cases v<;>rfl
theorem xX(prog:Program)(w:World)(i:Int)(t:Tok):(cU prog w).is (.inl i) (.int i t)=true:=BM i t
theorem xY(prog:Program)(w:World)(x:Str)(t:Tok):(cU prog w).is (.inr x) (.str x t)=true:=BN x t
inductive V where
 |cN|bl (b:Bool)|int (i:Int)|str (x:Str)|BO (b:Array UInt8)|HM (b:UInt64)|ref (a:Addr)|ty (n:String)
 deriving DecidableEq
def RelV:V→Value→Prop
 | .cN,u=>u=Value.none
 | .bl b,u=>u=Value.bool b
 | .int i,u=>∃t,u=Value.int i t
 | .str x,u=>∃t,u=Value.str x t
 | .BO b,u=>∃t,u=Value.bytes b t
 | .HM b,u=>∃t,u=Value.float b t
 | .ref a,u=>u=Value.ref a
 | .ty n,u=>u=Value.type n
abbrev Vals:List V→List Value→Prop:=Paired RelV
theorem Vals.length{xs:List V}{us:List Value}(r:Vals xs us):xs.length=us.length:=Paired.length r
theorem Vals.get:∀{xs:List V}{us:List Value}{i:Nat}{x:V},Vals xs us→xs[i]?=some x→∃u,us[i]?=some u∧RelV x u
 | _,_,_,_, .nil,e=>by simp at e
 | _,_,0,_, .cons r _,e=>by simp at e;subst e;exact⟨_,rfl,r⟩
 | _,_,i+1,x, .cons _ t,e=>by
  obtain⟨u,h1,h2⟩:=Vals.get (i:=i) (x:=x) t (by simpa using e);exact⟨u,by simpa using h1,h2⟩
theorem Vals.set{x:V}{u:Value}(r:RelV x u):∀{xs:List V}{us:List Value}(i:Nat),Vals xs us→Vals (xs.set i x) (us.set i u)
 | _,_,_, .nil=> .nil
 | _,_,0, .cons _ t=> .cons r t
 | _,_,i+1, .cons q t=> .cons q (Vals.set r i t)
theorem Vals.append:∀{xs ys:List V}{us ws:List Value},Vals xs us→Vals ys ws→Vals (xs++ys) (us++ws)
 | _,_,_,_, .nil,s=>s
 | _,_,_,_, .cons r t,s=> .cons r (Vals.append t s)
theorem Vals.take:∀{xs:List V}{us:List Value}(n:Nat),Vals xs us→Vals (xs.take n) (us.take n)
 | _,_,0,_=> .nil
 | _,_,_+1, .nil=> .nil
 | _,_,n+1, .cons r t=> .cons r (Vals.take n t)
theorem Vals.drop:∀{xs:List V}{us:List Value}(n:Nat),Vals xs us→Vals (xs.drop n) (us.drop n)
 | _,_,0,r=>r
 | _,_,_+1, .nil=> .nil
 | _,_,n+1, .cons _ t=>Vals.drop n t
def kq:Option V→Option Value→Prop
 |some v,some u=>RelV v u
 |none,none=>True
 | _,_=>False
def KV{κ:Type}:List (κ×V)→List (κ×Value)→Prop:=Paired fun(p:κ×V)(q:κ×Value)=>p.1=q.1∧RelV p.2 q.2
def kV:Key→V
 | .inl i=> .int i
 | .inr x=> .str x
inductive HO where
 |lst (xs:List V)
 |tup (xs:List V)
 |dK (kvs:List (Key×V))|dT (kvs:List (List Key×V))
 |set (S:Int→Bool) (n:Nat)
 |ins (C dx:Addr) (fs:List (Str×V))
 |own (x:Addr)
 |xd (fs:List (Str×V))
 |met (f x:Addr)
 |OP (lo hi:Int)
 |r9 (o:Obj) (u:HO)
 |FY (ps:Array Value)
 |ext (φ:Heap→Prop)
abbrev Hp:=Addr→Option HO
def upd(H:Hp)(a:Addr)(o:HO):Hp:=fun b=>if b=a then some o else H b
theorem ae{H:Hp}{a:Addr}{o:HO}:upd H a o a=some o:=by unfold upd;rw[if_pos rfl]
theorem ak{H:Hp}{a b:Addr}{o:HO}(h:b≠a):upd H a o b=H b:=by unfold upd;rw[Zm h]
theorem f6{H:Hp}{a:Addr}{o u:HO}:upd (upd H a o) a u=upd H a u:=by
 funext b;unfold upd;split<;>rfl
theorem iX{H:Hp}{a b:Addr}{o u:HO}(h:H a=some o)(h':H b=some u)(d:o≠u):a≠b:=by
 intro e;subst e;rw[h]at h';exact d (Zt h')
theorem aD{H:Hp}{a b:Addr}{o:HO}(h:H a=some o)(h':H b=none):a≠b:=by
 intro e;subst e;rw[h]at h';cases h'
section
variable(P:Program)(w:World)
def cO(H:Hp)(h:Heap)(a:Addr):HO→Prop
 | .lst xs=>xs.length≤sizeLine∧∃(its:List Value)(n:Nat),Vals xs its∧h.get? a=some {cls:= .type "list",data:= .seq its.toArray n}
 | .tup xs=>xs.length≤sizeLine∧∃its:List Value,Vals xs its∧IsTup h a its.toArray
 | .dK kvs=>kvs.length≤sizeLine∧(a==sysModules)=false∧∃vs,KV kvs vs∧h.DictOf (cU P w) a vs
 | .dT kvs=>kvs.length≤sizeLine∧(a==sysModules)=false∧∃xs:List (List Key×Addr×Value),
   Paired (fun(p:List Key×V)(q:List Key×Addr×Value)=>p.1=q.1∧H q.2.1=some (.tup (p.1.map kV))∧RelV p.2 q.2.2) kvs xs∧
   ∃o es ep,h.get? a=some o∧o.ExactDict∧o.data= .dict es ep∧es.toList=xs.map (entryOfKey (tupleKind (cU P w)))∧(xs.map (·.1)).Nodup
 | .set S n=>h.SetOf (intKind P w) a S n
 | .ins C dx fs=>H dx=some (.own a)∧fs.length≤1000∧dx≠a∧h.get? a=some (PySem.W.instObj C dx)∧
   ∃mA,h.Ns1 dx mA∧(∀f,kq (fs.lookup f) (mA f))∧PySem.Within mA (fs.map (·.1))
 | .own _=>∃o,h.get? a=some o
 | .xd fs=>∃mA,h.Ns1 a mA∧∀f,kq (fs.lookup f) (mA f)
 | .OP lo hi=>∃t u v,h.get? a=some {cls:= .type "range",data:= .fields #[.int lo t, .int hi u, .int 1 v]}
 | .r9 o u=>h.get? a=some o∧cO H h a u
 | .FY ps=>h.get? a=some {cls:= .none,data:= .fields ps}
 | .met f x=>h.get? a=some (PySem.W.methodObj (.ref f) (.ref x))
 | .ext φ=>φ h∧(∃o,h.get? a=some o)∧∀h1 h2:Heap,φ h1→(∀o,h1.get? a=some o→h2.get? a=some o)→φ h2
def lr(H:Hp)(h:Heap):Prop:=∀a o,H a=some o→cO P w H h a o
end
section
variable{P:Program}{w:World}{H H':Hp}{h h':Heap}{a:Addr}{o:HO}
theorem cO.lt(x:cO P w H h a o):a<h.objs.size:=by
 cases o with
 |lst xs=>obtain⟨_,_,_,_,e⟩:=x;exact Heap.lt_size e
 |tup xs=>obtain⟨_,_,_,p⟩:=x;exact p.lt
 |dK kvs=>obtain⟨_,_,_,_,o,_,_,e,_⟩:=x;exact Heap.lt_size e
 |dT kvs=>obtain⟨_,_,_,_,o,_,_,e,_⟩:=x;exact Heap.lt_size e
 |set S n=>obtain⟨o,_,_,_,e,_⟩:=x;exact Heap.lt_size e
 |ins C dx fs=>obtain⟨_,_,_,e,_⟩:=x;exact Heap.lt_size e
 |own y=>obtain⟨_,e⟩:=x;exact Heap.lt_size e
 |xd fs=>obtain⟨_,⟨_,_,_,e,_⟩,_⟩:=x;exact Heap.lt_size e
 |OP lo hi=>obtain⟨_,_,_,e⟩:=x;exact Heap.lt_size e
 |r9 ob u=>obtain⟨e,_⟩:=x;exact Heap.lt_size e
 |FY ps=>exact Heap.lt_size (show h.get? a=some _ from x)
 |met f y=>exact Heap.lt_size (show h.get? a=some _ from x)
 |ext φ=>obtain⟨_,⟨_,e⟩,_⟩:=x;exact Heap.lt_size e
theorem Paired.Jp{α β:Type}{F G:α→β→Prop}:∀{Mp:List α}{Mq:List β},Paired F Mp Mq→(∀a b,F a b→G a b)→Paired G Mp Mq
 | _,_, .nil,_=> .nil
 | _,_, .cons r t,f=> .cons (f _ _ r) (Paired.Jp t f)
theorem cO.vO(x:cO P w H h a o)(k:∀b u,(b=a∨H b=some (.own a))→h.get? b=some u→h'.get? b=some u)
  (ho:∀b,H b=some (.own a)→H' b=some (.own a)) (ht:∀b xs,H b=some (.tup xs)→H' b=some (.tup xs)):cO P w H' h' a o:=by
 induction o with
 |lst xs=>obtain⟨z,its,n,r,e⟩:=x;exact⟨z,its,n,r,k _ _ (.inl rfl) e⟩
 |tup xs=>obtain⟨z,its,r,ob,e,c⟩:=x;exact⟨z,its,r,ob,k _ _ (.inl rfl) e,c⟩
 |dK kvs=>obtain⟨z,y,vs,r,ob,es,ep,e,c⟩:=x;exact⟨z,y,vs,r,ob,es,ep,k _ _ (.inl rfl) e,c⟩
 |dT kvs=>
  obtain⟨z,y,xs,r,ob,es,ep,e,c⟩:=x;exact⟨z,y,xs,Paired.Jp r fun p q z=>⟨z.1,ht _ _ z.2.1,z.2.2⟩,ob,es,ep,k _ _ (.inl rfl) e,c⟩
 |set S n=>obtain⟨ob,es,ep,t,e,c⟩:=x;exact⟨ob,es,ep,t,k _ _ (.inl rfl) e,c⟩
 |ins C dx fs=>
  obtain⟨d,z,ne,e,mA,⟨od,es,ep,e2,c⟩,r⟩:=x;exact⟨ho _ d,z,ne,k _ _ (.inl rfl) e,mA,⟨od,es,ep,k _ _ (.inr d) e2,c⟩,r⟩
 |own y=>obtain⟨ob,e⟩:=x;exact⟨ob,k _ _ (.inl rfl) e⟩
 |xd fs=>obtain⟨mA,⟨od,es,ep,e,c⟩,r⟩:=x;exact⟨mA,⟨od,es,ep,k _ _ (.inl rfl) e,c⟩,r⟩
 |OP lo hi=>obtain⟨t,u,v,e⟩:=x;exact⟨t,u,v,k _ _ (.inl rfl) e⟩
 |r9 ob u ih=>obtain⟨e,q⟩:=x;exact⟨k _ _ (.inl rfl) e,ih q⟩
 |FY ps=>
  have e:h.get? a=some {cls:= .none,data:= .fields ps}:=x;show h'.get? a=some {cls:= .none,data:= .fields ps};exact k a _ (.inl rfl) e
 |met f y=>
  have e:h.get? a=some (PySem.W.methodObj (.ref f) (.ref y)):=x;show h'.get? a=some (PySem.W.methodObj (.ref f) (.ref y));exact k a _ (.inl rfl) e
 |ext φ=>obtain⟨p,⟨o,e⟩,st⟩:=x;exact⟨st _ _ p fun o q=>k _ _ (.inl rfl) q,⟨o,k _ _ (.inl rfl) e⟩,st⟩
theorem lr.lt(x:lr P w H h)(e:H a=some o):a<h.objs.size:=(x a o e).lt
theorem lr.fresh(x:lr P w H h)(e:h.objs.size≤a):H a=none:=by
 cases q:H a with
 |none=>rfl
 |some u=>exact absurd (Nat.lt_of_lt_of_le (x.lt q) e) (Nat.lt_irrefl _)
theorem lr.kept(x:lr P w H h)(k:∀b u,h.get? b=some u→h'.get? b=some u):lr P w H h':=fun a o e=>
 (x a o e).vO (fun b u _ q=>k b u q) (fun _ q=>q) fun _ _ q=>q
theorem lr.laid(x:lr P w H h)(k:∀b u,h.get? b=some u→h'.get? b=some u)(hp:h.objs.size≤a)(new:cO P w (upd H a o) h' a o):lr P w (upd H a o) h':=fun b u e=>by
 have hn:=x.fresh hp;by_cases hb:b=a
 ·subst hb;rw[ae]at e;cases e;exact new
 ·rw[ak hb]at e;exact(x b u e).vO (fun c v _ q=>k c v q) (fun c q=>by rw[ak (aD q hn)];exact q) fun c xs q=>by rw[ak (aD q hn)];exact q
end
def Rd(H:Hp)(a:Addr)(u:HO):Prop:=H a=some u∨∃o,H a=some (.r9 o u)
theorem Rd.of{H:Hp}{a:Addr}{u:HO}(h:H a=some u):Rd H a u:= .inl h
theorem Rd.ok{P:Program}{w:World}{H:Hp}{h:Heap}{a:Addr}{u:HO}(r:Rd H a u)(x:lr P w H h):cO P w H h a u:=by
 rcases r with r|⟨o,r⟩
 ·exact x a u r
 ·obtain⟨_,q⟩:=x a _ r;exact q
def Mr:Option HO→Prop
 |some (.lst _)=>True
 |some (.dK _)=>True
 |some (.dT _)=>True
 |some (.set _ _)=>True
 |some (.ins _ _ _)=>True
 |some (.ext _)=>True
 | _=>False
section
variable{P:Program}{w:World}{H:Hp}{h h':Heap}{x e:Addr}{o':HO}
theorem lr.write(ok:lr P w H h)(mu:Mr (H x))(he:e=x∨H e=some (.own x))(k:∀b u,b≠e→h.get? b=some u→h'.get? b=some u)(LI:∃u,h'.get? e=some u)
  (new:cO P w (upd H x o') h' x o'):lr P w (upd H x o') h':=fun b u q=>by
 have Ms:∀c y,H c=some (.own y)→c≠x:=fun c y r z=>by subst z;rw[r]at mu;exact mu
 have Qj:∀c xs,H c=some (.tup xs)→c≠x:=fun c xs r z=>by subst z;rw[r]at mu;exact mu
 by_cases hb:b=x
 ·subst hb;rw[ae]at q;cases q;exact new
 ·rw[ak hb]at q;by_cases Jq:b=e
  ·have q':H b=some (.own x):=by
    rcases he with z|z
    ·exact absurd (Jq.trans z) hb
    ·rw[Jq];exact z
   rw[q]at q';cases q';obtain⟨v,hv⟩:=LI;exact⟨v,by rw[Jq];exact hv⟩
  ·refine(ok b u q).vO (fun c v hc r=>k c v ?_ r) (fun c r=>by rw[ak (Ms c b r)];exact r) fun c xs r=>by rw[ak (Qj c xs r)];exact r
   rcases hc with rfl|hc
   ·exact Jq
   ·rintro rfl;rcases he with z|z
    ·exact Ms c b hc z
    ·rw[hc]at z;cases z;exact hb rfl
end
structure Un(fs ex:List Addr)(H H':Hp)(h h':Heap):Prop where
 keep:∀b o,h.get? b=some o→H b=none→b∉fs→b∉ex→h'.get? b=some o
 slot:∀b o,h.get? b=some o→H b=none→b∈fs→b∉ex→∃sl,h'.get? b=some {o with slots:=sl}
 free:∀b o,h.get? b=some o→H b=none→b∉ex→H' b=none
 there:∀b o,h.get? b=some o→b∉ex→∃o',h'.get? b=some o'
 cD:∀b xs,H b=some (.tup xs)→H' b=some (.tup xs)
 n9:∀b o u,H b=some (.r9 o u)→H' b=some (.r9 o u)
 rG:∀b ps,H b=some (.FY ps)→∃more,H' b=some (.FY (ps++more))
section
variable{fs VA ex Yl:List Addr}{H H1 H2:Hp}{h h1 h2 h':Heap}{a x e:Addr}{o:HO}
theorem Un.any(u:Un fs ex H H1 h h1){b:Addr}{ob:Obj}(q:h.get? b=some ob)(n:H b=none)(hx:b∉ex):∃sl,h1.get? b=some {ob with slots:=sl}:=by
 by_cases hb:b∈fs
 ·exact u.slot b ob q n hb hx
 ·exact⟨ob.slots,u.keep b ob q n hb hx⟩
theorem Un.kept(k:∀b u,h.get? b=some u→h'.get? b=some u):Un fs ex H H h h':=
 ⟨fun b ob q _ _ _=>k b ob q,fun b ob q _ _ _=>⟨ob.slots,k b ob q⟩,fun _ _ _ n _=>n,fun b ob q _=>⟨ob,k b ob q⟩,fun _ _ q=>q,fun _ _ _ q=>q,fun _ ps q=>⟨#[],by rw[q];simp⟩⟩
theorem Un.refl:Un fs ex H H h h:=Un.kept fun _ _ q=>q
theorem Un.laid(k:∀b u,h.get? b=some u→h'.get? b=some u)(hp:h.objs.size≤a)(hn:H a=none):Un fs ex H (upd H a o) h h' where
 keep:=fun b u q _ _ _=>k b u q
 slot:=fun b u q _ _ _=>⟨u.slots,k b u q⟩
 free:=fun b u q n _=>by rw[ak (Nat.ne_of_lt (Nat.lt_of_lt_of_le (Heap.lt_size q) hp))];exact n
 there:=fun b u q _=>⟨u,k b u q⟩
 cD:=fun b xs q=>by rw[ak (aD q hn)];exact q
 n9:=fun b u xs q=>by rw[ak (aD q hn)];exact q
 rG:=fun b ps q=>⟨#[],by rw[ak (aD q hn),q];simp⟩
theorem Un.write(mu:Mr (H x))(he:e=x∨H e=some (.own x))(k:∀b u,b≠e→h.get? b=some u→h'.get? b=some u)(LI:∃u,h'.get? e=some u):Un fs ex H (upd H x o) h h':=by
 have hx:∀b,H b=none→b≠x:=fun b n z=>by subst z;rw[n]at mu;exact mu
 have hb:∀b,H b=none→b≠e:=fun b n z=>by
  subst z;rcases he with r|r
  ·exact hx b n r
  ·rw[n]at r;cases r
 have hm:∀b u,H b=some u→¬Mr (some u)→b≠x:=fun b u q nm z=>by subst z;rw[q]at mu;exact nm mu
 refine⟨fun b u q n _ _=>k b u (hb b n) q,fun b u q n _ _=>⟨u.slots,k b u (hb b n) q⟩,fun b u q n _=>by rw[ak (hx b n)];exact n,fun b u q _=>?_,
  fun b xs q=>by rw[ak (hm b _ q fun z=>z)];exact q,fun b u xs q=>by rw[ak (hm b _ q fun z=>z)];exact q,fun b ps q=>⟨#[],by rw[ak (hm b _ q fun z=>z),q];simp⟩⟩
 by_cases Jq:b=e
 ·subst Jq;exact LI
 ·exact⟨u,k b u Jq q⟩
end
def OQ(h:Heap)(H:Hp):List Addr:=(List.range h.objs.size).filter fun a=>(H a).isSome
def vP(h:Heap)(H:Hp):Heap:=PySem.W.hideAll h (OQ h H)
theorem BP(h:Heap)(H:Hp):(vP h H).objs.size=h.objs.size:=PySem.W.hideAll_size _ _
theorem Dt{h:Heap}{H:Hp}{b:Addr}{o:Obj}(e:h.get? b=some o)(n:H b=none):(vP h H).get? b=some o:=
 PySem.W.hideAll_get _ e fun hm=>by
  have q:(H b).isSome=true:=(List.mem_filter.mp hm).2;rw[n]at q;simp at q
theorem FZ{h:Heap}{H:Hp}{b:Addr}{o:Obj}(e:(vP h H).get? b=some o):h.get? b=some o∧H b=none:=by
 have e':h.get? b=some o:=PySem.W.of_hideAll (OQ h H) e;refine⟨e',?_⟩;cases q:H b with
 |none=>rfl
 |some x=>
  have hm:b∈OQ h H:=List.mem_filter.mpr ⟨List.mem_range.mpr (Heap.lt_size e'),by simp[q]⟩;have z:(vP h H).get? b=none:=PySem.W.hideAll_none (OQ h H) hm;rw[z]at e;cases e
def F0(g h:Heap)(L:Addr):List (Addr×Obj):=(List.range h.objs.size).filterMap fun a=>if a=L∨(g.get? a).isSome=true then none else(h.get? a).map fun o=>(a,o)
def rest(g h:Heap)(L d:Addr):List (Addr×Obj):=(F0 g h L).filter fun p=>decide (p.1≠d)
structure Mod(K:PySem.W.Frag)(mg:Str→Option Value)(base:Heap):Prop where
 LJ:K.In base
 glob:base.Ns mainGlobals mg
 blt:∃mb,base.Ns builtinsNs mb∧∀x:Str,x≠"__name__"→mb x=bootBuiltins x
 nolimit:base.NoLimit
structure Cx where
 prog:Program
 w:World
 K:PySem.W.Frag
 mg:Str→Option Value
 base:Heap
 A:Around
 N:List Str
 dz:Shared
 eU:Hp
 env:Env
 outer:List Env
 stack:List Env
 ex:List Addr
 fn:Str→Bool
 calm:Bool
 pn:List (Addr×Obj)
 xe:Value→Shared→Prop
def n5(l:List Env):List Addr:=l.filterMap (·.frame)
abbrev Cx.fs(X:Cx):List Addr:=n5 X.outer
def Qk(sc:Scope)(x:Str):Prop:=sc.names.lookup x=some .local∨sc.names.lookup x=some .cell∨sc.names.lookup x=some .free
def Loc(sc:Scope)(x:Str):Prop:=sc.names.lookup x=some .local∨sc.names.lookup x=some .cell
def Look(env:Env)(h:Heap)(m:Str→Option Value)(x:Str)(u:Value):Prop:=
 (env.kindOf x=some .local∧m x=some u)∨((env.kindOf x=some .cell∨env.kindOf x=some .free)∧∃c,env.cells.lookup x=some c∧h.IsCell c (some u))
structure Cx.Ok(X:Cx):Prop where
 mod:Mod X.K X.mg X.base
 kind:X.env.scope.kind= .function
 glob:X.env.globals=mainGlobals
 blt:X.env.builtins=builtinsNs
 above:X.dz.heap.objs.size≤X.env.locals
 inj:∀x y c,X.env.cells.lookup x=some c→X.env.cells.lookup y=some c→x=y
 has:∀x,(X.env.kindOf x=some .cell∨X.env.kindOf x=some .free)→∃c,X.env.cells.lookup x=some c
 Ql:∀x c,X.fn x=true→X.env.cells.lookup x=some c→X.dz.heap.objs.size≤c
 hd:X.calm=true→X.A.handled=none
 frames:X.A.frames=some X.stack
 Tq:X.stack=X.outer∨(X.stack=X.env::X.outer∧X.env.frame=some X.env.locals)
 Ym:∀b∈X.ex,b≠X.env.locals∧∀x c,X.env.cells.lookup x=some c→c≠b
 bs:∀b o,X.base.get? b=some o→X.dz.heap.get? b=some o∧X.eU b=none
 Jr:X.base.objs.size≤X.dz.heap.objs.size
 Js:∀b o,X.base.get? b=some o→b∉X.ex
 Mt:∀b∈X.ex,b∉X.fs
 um:X.dz.heap.FunFrames X.base X.outer
 Mu:∀b∈X.fs,X.eU b=none
structure Inv(X:Cx)(pins:List (Addr×Obj))(σ:List (Option V))(H:Hp)(s:Shared):Prop where
 ok:X.Ok
 os:s.os=X.dz.os
 bare:AllBare s.gens
 base:Un X.fs X.ex X.eU H X.dz.heap s.heap
 loc:∃m,s.heap.Ns X.env.locals m∧∀(i:Nat)(x:Str)(v:V),X.N[i]?=some x→σ[i]?=some (some v)→Qk X.env.scope x→∃u,RelV v u∧Look X.env s.heap m x u
 cell:∀x c,X.env.cells.lookup x=some c→∃v,s.heap.IsCell c v
 free:H X.env.locals=none
 mO:∀x c,X.env.cells.lookup x=some c→H c=none
 pin:∀p∈X.pn++pins,s.heap.get? p.1=some p.2∧H p.1=none∧p.1≠X.env.locals∧p.1∉X.fs∧∀v,p.2.data≠ .cell v
 bX:lr X.prog X.w H s.heap
 len:σ.length=X.N.length
section
variable{X:Cx}{pins:List (Addr×Obj)}{σ:List (Option V)}{H H':Hp}{s:Shared}{h':Heap}
theorem Cx.Ok.Qm(ok:X.Ok){b:Addr}{o:Obj}(e:X.base.get? b=some o):b∉X.fs:=fun hb=>by
 have:=(ok.um.mem hb).1;rw[e]at this;cases this
theorem Inv.bs(I:Inv X pins σ H s):∀b o,X.base.get? b=some o→s.heap.get? b=some o∧H b=none:=fun b o e=>
 ⟨I.base.keep b o (I.ok.bs b o e).1 (I.ok.bs b o e).2 (I.ok.Qm e) (I.ok.Js b o e),I.base.free b o (I.ok.bs b o e).1 (I.ok.bs b o e).2 (I.ok.Js b o e)⟩
theorem Inv.bk(I:Inv X pins σ H s):∀b o,X.base.get? b=some o→s.heap.get? b=some o:=fun b o e=>(I.bs b o e).1
theorem Inv.mod(I:Inv X pins σ H s):Mod X.K X.mg X.base:=I.ok.mod
theorem Inv.p9(I:Inv X pins σ H s):X.K.In s.heap:=I.ok.mod.LJ.keeps I.bk
theorem Inv.lt(I:Inv X pins σ H s):X.env.locals<s.heap.objs.size:=let ⟨_,hn,_⟩:=I.loc;hn.lt
theorem Inv.sz(I:Inv X pins σ H s):X.dz.heap.objs.size≤s.heap.objs.size:=Nat.le_trans I.ok.above (Nat.le_of_lt I.lt)
theorem Inv.Qn(I:Inv X pins σ H s){a:Addr}(h:s.heap.objs.size≤a):a∉X.fs:=fun hb=>by
 obtain⟨_,o,ho,_⟩:=I.ok.um.mem hb;exact absurd (Nat.lt_of_lt_of_le (Heap.lt_size ho) (Nat.le_trans I.sz h)) (Nat.lt_irrefl _)
theorem Inv.Jt(I:Inv X pins σ H s):∀x c,X.env.cells.lookup x=some c→c≠X.env.locals:=fun x c e z=>by
 obtain⟨v,o,ho,hd⟩:=I.cell x c e;obtain⟨m,⟨o',es,ep,Ju,LK,_⟩,_⟩:=I.loc;rw[z,Ju]at ho;cases ho;rw[LK]at hd;cases hd
theorem Inv.um(I:Inv X pins σ H s):s.heap.FunFrames X.base X.outer:=by
 have all:∀(l:List Env),(∀b∈n5 l,b∈X.fs)→X.dz.heap.FunFrames X.base l→s.heap.FunFrames X.base l:=by
  intro l
  induction l with
  |nil=>intro _ _;trivial
  |cons env r ih=>
   intro hs hl;obtain⟨hk,⟨L,o,hf,hn,ho,hd⟩,hr⟩:=hl;have hL:L∈X.fs:=hs L (by unfold n5;rw[List.filterMap_cons,hf];exact List.mem_cons_self);obtain⟨sl,e⟩:=I.base.slot L o ho (I.ok.Mu L hL) hL fun z=>I.ok.Mt L z hL
   exact⟨hk,⟨L,_,hf,hn,e,hd⟩,ih (fun b hb=>hs b (by unfold n5;rw[List.filterMap_cons,hf];exact List.mem_cons_of_mem _ hb)) hr⟩
 exact all X.outer (fun _ hb=>hb) I.ok.um
theorem Inv.stack(I:Inv X pins σ H s):s.heap.FunFrames X.base X.stack:=by
 rcases I.ok.Tq with e|⟨e,hf⟩
 ·rw[e];exact I.um
 ·rw[e];obtain⟨m,hn,_⟩:=I.loc;refine .cons (by rw[I.ok.kind];decide) hf hn ?_ I.um;exact Heap.get?_none_of_le (Nat.le_trans I.ok.Jr I.ok.above)
theorem Inv.sq(I:Inv X pins σ H s):∀b∈n5 X.stack,b∈X.env.locals::X.fs:=fun b hb=>by
 rcases I.ok.Tq with e|⟨e,hf⟩
 ·rw[e]at hb;exact List.mem_cons_of_mem _ hb
 ·rw[e]at hb;unfold n5 at hb;rw[List.filterMap_cons,hf]at hb;exact hb
theorem Inv.vQ(I:Inv X pins σ H s):∀b∈n5 X.stack,H b=none:=fun b hb=>by
 rcases List.mem_cons.mp (I.sq b hb)with e|hb
 ·rw[e];exact I.free
 ·obtain⟨_,o,ho,_⟩:=I.ok.um.mem hb;exact I.base.free b o ho (I.ok.Mu b hb) fun z=>I.ok.Mt b z hb
theorem Inv.step{g':Array GenState}{t':Nat}{d':Drawn}{ch:List Addr}(I:Inv X pins σ H s)
  (FI:∀b∈ch,(b∈X.ex∨X.dz.heap.objs.size≤b)∧b≠X.env.locals∧(∀x c,X.env.cells.lookup x=some c→c≠b)∧∀p∈X.pn++pins,p.1≠b)
  (keep:∀b o,b≠X.env.locals→b∉X.fs→b∉ch→s.heap.get? b=some o→H b=none→h'.get? b=some o)
  (slot:∀b o,b≠X.env.locals→b∈X.fs→b∉ch→s.heap.get? b=some o→H b=none→∃sl,h'.get? b=some {o with slots:=sl}) (free:∀b o,b∉ch→s.heap.get? b=some o→H b=none→H' b=none)
  (there:∀b o,b∉ch→s.heap.get? b=some o→∃o',h'.get? b=some o')
  (cD:∀b xs,H b=some (.tup xs)→H' b=some (.tup xs)) (n9:∀b o u,H b=some (.r9 o u)→H' b=some (.r9 o u)) (rG:∀b ps,H b=some (.FY ps)→∃more,H' b=some (.FY (ps++more)))
  (ns:∀m,s.heap.Ns X.env.locals m→h'.Ns X.env.locals m) (bX:lr X.prog X.w H' h') (hg:AllBare g'):
  Inv X pins σ H' {s with heap:=h',gens:=g',drawn:=d',toks:=t'}:=by
 have Tr:∀b o,X.dz.heap.get? b=some o→b≠X.env.locals:=fun b o e=>Nat.ne_of_lt (Nat.lt_of_lt_of_le (Heap.lt_size e) I.ok.above)
 have OR:∀b o,X.dz.heap.get? b=some o→b∉X.ex→b∉ch:=fun b o e hx hb=>by
  rcases(FI b hb).1 with z|z
  ·exact hx z
  ·exact absurd (Nat.lt_of_lt_of_le (Heap.lt_size e) z) (Nat.lt_irrefl _)
 have cellK:∀x c,X.env.cells.lookup x=some c→∀v,s.heap.IsCell c v→h'.IsCell c v:=fun x c e v ⟨o,ho,hd⟩=>by
  have Mv:c∉ch:=fun z=>(FI c z).2.2.1 x c e rfl
  by_cases hc:c∈X.fs
  ·obtain⟨sl,q⟩:=slot c o (I.Jt x c e) hc Mv ho (I.mO x c e);exact⟨_,q,hd⟩
  ·exact⟨o,keep c o (I.Jt x c e) hc Mv ho (I.mO x c e),hd⟩
 refine⟨I.ok,I.os,hg,⟨fun b o e n hb hx=>?_,fun b o e n hb hx=>?_,fun b o e n hx=>?_,fun b o e hx=>?_,fun b xs e=>cD b xs (I.base.cD b xs e),fun b o xs e=>n9 b o xs (I.base.n9 b o xs e),fun b ps e=>?_⟩,?_,fun x c e=>?_,?_,fun x c e=>?_,fun p hp=>?_,bX,I.len⟩
 ·exact keep b o (Tr b o e) hb (OR b o e hx) (I.base.keep b o e n hb hx) (I.base.free b o e n hx)
 ·obtain⟨sl,e1⟩:=I.base.slot b o e n hb hx;obtain⟨Qo,e2⟩:=slot b _ (Tr b o e) hb (OR b o e hx) e1 (I.base.free b o e n hx);exact⟨Qo,e2⟩
 ·obtain⟨o',e1⟩:=I.base.there b o e hx;exact free b o' (OR b o e hx) e1 (I.base.free b o e n hx)
 ·obtain⟨o',e1⟩:=I.base.there b o e hx;exact there b o' (OR b o e hx) e1
 ·obtain⟨m1,e1⟩:=I.base.rG b ps e;obtain⟨m2,e2⟩:=rG b _ e1;exact⟨m1++m2,by rw[e2,Array.append_assoc]⟩
 ·obtain⟨m,hn,hl⟩:=I.loc;refine⟨m,ns m hn,fun i x v e1 e2 e3=>?_⟩;obtain⟨u,r,l⟩:=hl i x v e1 e2 e3;refine⟨u,r,?_⟩;rcases l with l|⟨k,c,e,z⟩
  ·exact .inl l
  ·exact .inr ⟨k,c,e,cellK x c e _ z⟩
 ·obtain⟨v,z⟩:=I.cell x c e;exact⟨v,cellK x c e v z⟩
 ·obtain⟨m,⟨o,_,_,ho,_⟩,_⟩:=I.loc;exact free _ o (fun z=>(FI _ z).2.1 rfl) ho I.free
 ·obtain⟨v,o,ho,hd⟩:=I.cell x c e;exact free c o (fun z=>(FI c z).2.2.1 x c e rfl) ho (I.mO x c e)
 ·obtain⟨e,n,ne,nf,d⟩:=I.pin p hp;have Mv:p.1∉ch:=fun z=>(FI p.1 z).2.2.2 p hp rfl
  exact⟨keep p.1 p.2 ne nf Mv e n,free p.1 p.2 Mv e n,ne,nf,d⟩
theorem Inv.un{t':Nat}(I:Inv X pins σ H s)(u:Un X.fs [] H H' s.heap h')(bX:lr X.prog X.w H' h'):Inv X pins σ H' {s with heap:=h',toks:=t'}:=by
 obtain⟨m,⟨o,es,ep,ho,r⟩,_⟩:=id I.loc;obtain⟨sl,hL⟩:=u.any ho I.free Zu;exact I.step (g':=s.gens) (d':=s.drawn) (ch:=[]) (fun _ z=>nomatch z) (fun b o _ hb _ e n=>u.keep b o e n hb Zu) (fun b o _ hb _ e n=>u.slot b o e n hb Zu) (fun b o _ e n=>u.free b o e n (ZD)) (fun b o _ e=>u.there b o e Zu) u.cD u.n9 u.rG (fun m' hm=>by
  obtain⟨o',xZ,OS,Ju,r'⟩:=hm;rw[ho]at Ju;cases Ju;exact⟨_,xZ,OS,hL,r'⟩) bX I.bare
theorem Inv.call{g':Array GenState}{t':Nat}{d':Drawn}{ch:List Addr}(I:Inv X pins σ H s)(u:Un (n5 X.stack) ch H H' s.heap h')(bX:lr X.prog X.w H' h')(hg:AllBare g')
  (FI:∀b∈ch,(b∈X.ex∨X.dz.heap.objs.size≤b)∧b≠X.env.locals∧(∀x c,X.env.cells.lookup x=some c→c≠b)∧∀p∈X.pn++pins,p.1≠b):
  Inv X pins σ H' {s with heap:=h',gens:=g',drawn:=d',toks:=t'}:=by
 obtain⟨m,⟨o,es,ep,ho,r⟩,_⟩:=id I.loc;obtain⟨sl,hL⟩:=u.any ho I.free fun z=>(FI _ z).2.1 rfl
 exact I.step (ch:=ch) FI (fun b o hL hb hc e n=>u.keep b o e n (fun z=>(List.mem_cons.mp (I.sq b z)).elim hL hb) hc) (fun b o _ _ hc e n=>u.any e n hc) (fun b o hc e n=>u.free b o e n hc) (fun b o hc e=>u.there b o e hc) u.cD u.n9 u.rG (fun m' hm=>by
  obtain⟨o',xZ,OS,Ju,r'⟩:=hm;rw[ho]at Ju;cases Ju;exact⟨_,xZ,OS,hL,r'⟩) bX hg
theorem Inv.turned{t':Nat}{it:Addr}(I:Inv X pins σ H s)(k:∀b o,b≠it→s.heap.get? b=some o→h'.get? b=some o)(hn:H it=none)(hL:it≠X.env.locals)
  (h1:it∈X.ex∨X.dz.heap.objs.size≤it) (h2:∀x c,X.env.cells.lookup x=some c→c≠it) (h3:∀p∈X.pn++pins,p.1≠it):Inv X pins σ H {s with heap:=h',toks:=t'}:=by
 have HN:∀b u,H b=some u→b≠it:=fun b u e z=>by rw[z,hn]at e;cases e
 refine I.step (g':=s.gens) (d':=s.drawn) (ch:=[it]) (fun b hb=>?_) (fun b o _ _ hc e _=>k b o (fun z=>hc (by simp[z])) e) (fun b o _ _ hc e _=>⟨o.slots,k b o (fun z=>hc (by simp[z])) e⟩) (fun _ _ _ _ n=>n)
  (fun b o hc e=>⟨o,k b o (fun z=>hc (by simp[z])) e⟩) (fun _ _ e=>e) (fun _ _ _ e=>e) (fun b ps e=>⟨#[],by rw[e];simp⟩) (fun m hm=>?_) (fun b u e=>?_) I.bare
 ·have e:b=it:=by simpa using hb
  subst e;exact⟨h1,hL,h2,h3⟩
 ·obtain⟨o,es,ep,ho,r⟩:=hm;exact⟨o,es,ep,k _ o (Ne.symm hL) ho,r⟩
 ·refine(I.bX b u e).vO (fun c v hc q=>k c v ?_ q) (fun _ q=>q) fun _ _ q=>q
  rcases hc with z|z
  ·rw[z];exact HN b u e
  ·exact HN c _ z
theorem Inv.tok(I:Inv X pins σ H s)(t:Nat):Inv X pins σ H {s with toks:=t}:=I.un (h':=s.heap) (t':=t) Un.refl I.bX
theorem Inv.kept{t':Nat}(I:Inv X pins σ H s)(k:∀b u,s.heap.get? b=some u→h'.get? b=some u):Inv X pins σ H {s with heap:=h',toks:=t'}:=I.un (Un.kept k) (I.bX.kept k)
theorem Inv.laid{a:Addr}{o:HO}{t':Nat}(I:Inv X pins σ H s)(k:∀b u,s.heap.get? b=some u→h'.get? b=some u)(hp:s.heap.objs.size≤a)(new:cO X.prog X.w (upd H a o) h' a o):
  Inv X pins σ (upd H a o) {s with heap:=h',toks:=t'}:=I.un (Un.laid k hp (I.bX.fresh hp)) (I.bX.laid k hp new)
theorem Inv.write{x e:Addr}{o:HO}{t':Nat}(I:Inv X pins σ H s)(mu:Mr (H x))(he:e=x∨H e=some (.own x))(k:∀b u,b≠e→s.heap.get? b=some u→h'.get? b=some u)(LI:∃u,h'.get? e=some u)
  (new:cO X.prog X.w (upd H x o) h' x o):Inv X pins σ (upd H x o) {s with heap:=h',toks:=t'}:=I.un (Un.write mu he k LI) (I.bX.write mu he k LI new)
theorem Inv.AO{HP:List (Addr×Obj)}(I:Inv X pins σ H s)(h:∀p∈HP,s.heap.get? p.1=some p.2∧H p.1=none∧p.1≠X.env.locals∧p.1∉X.fs∧∀v,p.2.data≠ .cell v):Inv X HP σ H s:=
 ⟨I.ok,I.os,I.bare,I.base,I.loc,I.cell,I.free,I.mO,fun p hp=>(List.mem_append.mp hp).elim (fun z=>I.pin p (List.mem_append_left _ z)) (h p),I.bX,I.len⟩
theorem x_{N:List Str}(hN:N.Nodup){i j:Nat}{x:Str}(a:N[i]?=some x)(b:N[j]?=some x):i=j:=by
 obtain⟨h1,e1⟩:=Y' a;obtain⟨h2,e2⟩:=Y' b;exact(List.getElem_inj hN).mp (e1.trans e2.symm)
theorem u7{M:Model}{A:Around}{E:Value→Shared→Prop}{i:Nat}{x:Str}{v:V}{u:Value}{Q:Unit→Shared→Prop}(I:Inv X pins σ H s)(hN:X.N.Nodup)(hi:X.N[i]?=some x)(hx:Loc X.env.scope x)(r:RelV v u)
  (h:∀s',Inv X pins (σ.set i (some v)) H s'→(∃a,Heap.SameBut a s.heap s'.heap∧(a=X.env.locals∨X.env.cells.lookup x=some a))→Q () s') (hf:X.fn x=true∨X.env.scope.names.lookup x=some .local:=by first|exact .inl rfl|exact .inr rfl|assumption):wpAny M A (storeName X.env x u) Q E s:=by
 obtain⟨m,hn,hl⟩:=id I.loc;have Qp:(X.env.scope.kind== .class||(X.env.scope.kind== .module&&X.env.locals !=X.env.globals))=false:=by rw[I.ok.kind];rfl
 have Mw:i<σ.length:=by rw[I.len];exact(Y' hi).1
 have Jt:=I.Jt;have tracked:∀{a:Addr}{h':Heap},(∃o,s.heap.get? a=some o∧H a=none)→Heap.SameBut a s.heap h'→lr X.prog X.w H h':=fun{a h'} ha hs b ob e=>by
  obtain⟨_,_,AQ⟩:=ha;refine(I.bX b ob e).vO (fun c w' hc q=>(hs.2 c ?_).trans q) (fun _ q=>q) fun _ _ q=>q
  rintro rfl;rcases hc with rfl|hc
  ·rw[AQ]at e;cases e
  ·rw[AQ]at hc;cases hc
 rcases hx with hk|hk
 ·refine wpAny_storeName_local hk hn (fun h' Du hs=>?_) Qp;obtain⟨oL,_,_,HQ,_⟩:=id hn;refine h _ ⟨I.ok,I.os,I.bare,⟨fun b o e n hb hx=>?_,fun b o e n hb hx=>?_,I.base.free,fun b o e hx=>?_,I.base.cD,I.base.n9,I.base.rG⟩,⟨_,Du,fun j y v' e1 e2 e3=>?_⟩,fun y c e=>?_,I.free,I.mO,fun p hp=>?_,tracked ⟨oL,HQ,I.free⟩ hs,by simpa using I.len⟩ ⟨_,hs, .inl rfl⟩
  ·exact(hs.2 b (Nat.ne_of_lt (Nat.lt_of_lt_of_le (Heap.lt_size e) I.ok.above))).trans (I.base.keep b o e n hb hx)
  ·obtain⟨sl,e1⟩:=I.base.slot b o e n hb hx;exact⟨sl,(hs.2 b (Nat.ne_of_lt (Nat.lt_of_lt_of_le (Heap.lt_size e) I.ok.above))).trans e1⟩
  ·obtain⟨o',e1⟩:=I.base.there b o e hx;exact⟨o',(hs.2 b (Nat.ne_of_lt (Nat.lt_of_lt_of_le (Heap.lt_size e) I.ok.above))).trans e1⟩
  ·by_cases hj:j=i
   ·subst hj;rw[hi]at e1;cases e1;rw[List.getElem?_set_self Mw]at e2;cases e2;exact⟨u,r, .inl ⟨hk,ZD⟩⟩
   ·rw[List.getElem?_set_ne (Ne.symm hj)]at e2;obtain⟨u',r',q⟩:=hl j y v' e1 e2 e3;refine⟨u',r',?_⟩;rcases q with⟨k,e⟩|⟨k,c,e,z⟩
    ·refine .inl ⟨k,?_⟩;have:y≠x:=fun e=>hj (x_ hN e1 (e▸hi))
     simp[this,e]
    ·exact .inr ⟨k,c,e,z.sameBut hs (Jt y c e)⟩
  ·obtain⟨w',z⟩:=I.cell y c e;exact⟨w',z.sameBut hs (Jt y c e)⟩
  ·obtain⟨e,n,ne,nf,d⟩:=I.pin p hp;exact⟨(hs.2 p.1 ne).trans e,n,ne,nf,d⟩
 ·have Mx:X.fn x=true:=by
   rcases hf with z|z
   ·exact z
   ·rw[z]at hk;cases hk
  obtain⟨c,hc⟩:=I.ok.has x (.inl hk);obtain⟨w',z⟩:=I.cell x c hc;refine wpAny_storeName_cell I.ok.kind hk hc z (fun h' Jv hs=>?_);obtain⟨oc,Ts,Qq⟩:=id z;refine h {s with heap:=h'} ⟨I.ok,I.os,I.bare,⟨fun b o e n hb hx=>?_,fun b o e n hb hx=>?_,I.base.free,fun b o e hx=>?_,I.base.cD,I.base.n9,I.base.rG⟩,⟨m,hn.sameBut hs (Ne.symm (Jt x c hc)),fun j y v' e1 e2 e3=>?_⟩,fun y c' e=>?_,I.free,I.mO,fun p hp=>?_,tracked ⟨oc,Ts,I.mO x c hc⟩ hs,by simpa using I.len⟩ ⟨c,hs, .inr hc⟩
  ·exact(hs.2 b (Nat.ne_of_lt (Nat.lt_of_lt_of_le (Heap.lt_size e) (I.ok.Ql x c Mx hc)))).trans (I.base.keep b o e n hb hx)
  ·obtain⟨sl,e1⟩:=I.base.slot b o e n hb hx;exact⟨sl,(hs.2 b (Nat.ne_of_lt (Nat.lt_of_lt_of_le (Heap.lt_size e) (I.ok.Ql x c Mx hc)))).trans e1⟩
  ·obtain⟨o',e1⟩:=I.base.there b o e hx;exact⟨o',(hs.2 b (Nat.ne_of_lt (Nat.lt_of_lt_of_le (Heap.lt_size e) (I.ok.Ql x c Mx hc)))).trans e1⟩
  ·by_cases hj:j=i
   ·subst hj;rw[hi]at e1;cases e1;rw[List.getElem?_set_self Mw]at e2;cases e2;exact⟨u,r, .inr ⟨.inl hk,c,hc,Jv⟩⟩
   ·rw[List.getElem?_set_ne (Ne.symm hj)]at e2;obtain⟨u',r',q⟩:=hl j y v' e1 e2 e3;refine⟨u',r',?_⟩;rcases q with q|⟨k,c',e,z'⟩
    ·exact .inl q
    ·refine .inr ⟨k,c',e,z'.sameBut hs ?_⟩;rintro rfl;exact hj (x_ hN e1 (I.ok.inj _ _ _ e hc▸hi))
  ·by_cases Tt:c'=c
   ·subst Tt;exact⟨_,Jv⟩
   ·obtain⟨w2,z2⟩:=I.cell y c' e;exact⟨w2,z2.sameBut hs Tt⟩
  ·obtain⟨e,n,ne,nf,d⟩:=I.pin p hp;refine⟨(hs.2 p.1 ?_).trans e,n,ne,nf,d⟩;intro q;rw[q,Ts]at e;have q':oc=p.2:=Zt e;exact d w' (by rw[←q'];exact Qq)
theorem ya{M:Model}{A:Around}{E:Value→Shared→Prop}{i:Nat}{x:Str}{v:V}{u:Value}{Q:Unit→Shared→Prop}(I:Inv X pins σ H s)(hN:X.N.Nodup)(hi:X.N[i]?=some x)(hx:Loc X.env.scope x)(r:RelV v u)
  (h:∀s',Inv X pins (σ.set i (some v)) H s'→Q () s') (hf:X.fn x=true∨X.env.scope.names.lookup x=some .local:=by first|exact .inl rfl|exact .inr rfl|assumption):wpAny M A (storeName X.env x u) Q E s:=
 u7 I hN hi hx r (fun s' I' _=>h s' I') hf
theorem Inv.My{s':Shared}{ch:List Addr}(I:Inv X pins σ H s)(ho:s'.os=s.os)(u:Un (n5 X.stack) ch H H' s.heap s'.heap)(bX:lr X.prog X.w H' s'.heap)(hg:AllBare s'.gens)
  (FI:∀b∈ch,(b∈X.ex∨X.dz.heap.objs.size≤b)∧b≠X.env.locals∧(∀x c,X.env.cells.lookup x=some c→c≠b)∧∀p∈X.pn++pins,p.1≠b):Inv X pins σ H' s':=by
 obtain⟨h',g',d',t',o'⟩:=s';have e:o'=s.os:=ho;subst e;exact I.call (g':=g') (t':=t') (d':=d') u bX hg FI
end
abbrev XK:=Value→Option Addr→Hp→Prop
abbrev St:=List (Option V)
abbrev VK:=V→Hp→Prop
abbrev TE:=St→Hp→VK→Prop
abbrev TT:=St→Hp→(Bool→Hp→Prop)→Prop
abbrev TA:=St→Hp→(List V→Hp→Prop)→Prop
structure Ends where
 nx:St→Hp→Prop
 rt:VK
 bk:St→Hp→Prop:=fun _ _=>False
 ct:St→Hp→Prop:=fun _ _=>False
abbrev TS:=Ends→St→Hp→Prop
def EP(X:Cx)(pins:List (Addr×Obj))(σ:St)(Q:VK)(u:Value)(s':Shared):Prop:=∃v H',Inv X pins σ H' s'∧RelV v u∧Q v H'
def TP(X:Cx)(pins:List (Addr×Obj))(σ:St)(Q:Bool→Hp→Prop)(b:Bool)(s':Shared):Prop:=∃H',Inv X pins σ H' s'∧Q b H'
def AP(X:Cx)(pins:List (Addr×Obj))(σ:St)(Q:List V→Hp→Prop)(us:List Value)(s':Shared):Prop:=∃vs H',Inv X pins σ H' s'∧Vals vs us∧Q vs H'
def SP(X:Cx)(pins:List (Addr×Obj))(D:Ends)(f:Flow)(s':Shared):Prop:=
 match f with
 | .next=>∃bD H',Inv X pins bD H' s'∧D.nx bD H'
 | .brk=>∃bD H',Inv X pins bD H' s'∧D.bk bD H'
 | .cont=>∃bD H',Inv X pins bD H' s'∧D.ct bD H'
 | .ret u=>∃v bD H',Inv X pins bD H' s'∧RelV v u∧D.rt v H'
def PE(X:Cx)(e:Expr)(t:TE):Prop:=
 ∀(pins:List (Addr×Obj))(s:Shared)(σ:St)(H:Hp)(Q:VK),Inv X pins σ H s→t σ H Q→wpAny (model X.prog X.w) X.A (eval e X.env) (EP X pins σ Q) X.xe s
def PT(X:Cx)(e:Expr)(t:TT):Prop:=
 ∀(pins:List (Addr×Obj))(s:Shared)(σ:St)(H:Hp)(Q:Bool→Hp→Prop),Inv X pins σ H s→t σ H Q→wpAny (model X.prog X.w) X.A (isTrue e X.env (eval e X.env)) (TP X pins σ Q) X.xe s
def PW(X:Cx)(e:Expr)(t:TT):Prop:=
 ∀(whole:Sem Value)(pins:List (Addr×Obj))(s:Shared)(σ:St)(H:Hp)(Q:Bool→Hp→Prop),Inv X pins σ H s→t σ H Q→wpAny (model X.prog X.w) X.A (isTrue e X.env whole) (TP X pins σ Q) X.xe s
theorem PW.pt{X:Cx}{e:Expr}{t:TT}(h:PW X e t):PT X e t:=h _
def PA(X:Cx)(es:List Expr)(t:TA):Prop:=
 ∀(pos:Pos)(pins:List (Addr×Obj))(s:Shared)(σ:St)(H:Hp)(Q:List V→Hp→Prop),Inv X pins σ H s→t σ H Q→wpAny (model X.prog X.w) X.A (spliced (backTo pos (starEach es X.env))) (AP X pins σ Q) X.xe s
def PS(X:Cx)(st:Stmt)(t:TS):Prop:=
 ∀(pins:List (Addr×Obj))(s:Shared)(σ:St)(H:Hp)(D:Ends),Inv X pins σ H s→t D σ H→wpAny (model X.prog X.w) X.A (exec st X.env) (SP X pins D) X.xe s
def BQ(X:Cx)(st:List Stmt)(t:TS):Prop:=
 ∀(pins:List (Addr×Obj))(s:Shared)(σ:St)(H:Hp)(D:Ends),Inv X pins σ H s→t D σ H→wpAny (model X.prog X.w) X.A (execs st X.env) (SP X pins D) X.xe s
theorem cH{α:Type}{t:Sem α}{Q Q':α→Shared→Prop}{M:Model}{A:Around}{E:Value→Shared→Prop}{s:Shared}(h:wpAny M A t Q E s)(hQ:∀a s,Q a s→Q' a s):wpAny M A t Q' E s:=wpAny_mono h hQ fun _ _ x=>x
section
variable{X:Cx}
theorem bin{a b:Expr}{ta tb:TE}(ha:PE X a ta)(hb:PE X b tb){pins:List (Addr×Obj)}{s:Shared}{σ:St}{H:Hp}{R:V→V→Hp→Prop}(I:Inv X pins σ H s)(h:ta σ H fun x H1=>tb σ H1 fun y H2=>R x y H2)
  {α:Type} {Q:α→Shared→Prop} {f:Value→Value→Sem α}
  (hf:∀v u s2 x y H2,Inv X pins σ H2 s2→RelV x v→RelV y u→R x y H2→wpAny (model X.prog X.w) X.A (f v u) Q X.xe s2):
  wpAny (model X.prog X.w) X.A (eval a X.env) (fun v cn=>wpAny (model X.prog X.w) X.A (eval b X.env) (fun u p_=>wpAny (model X.prog X.w) X.A (f v u) Q X.xe p_) X.xe cn) X.xe s:=by
 refine cH (ha pins s σ H _ I h) fun v s1 ⟨x,H1,I1,r1,q1⟩=>?_
 refine cH (hb pins s1 σ H1 _ I1 q1) fun u s2 ⟨y,H2,I2,r2,q2⟩=>?_
 exact hf v u s2 x y H2 I2 r1 r2 q2
inductive Jw(i:Nat)(σ:St)(H:Hp)(Q:VK):Prop
 |mk (v:_) (_:σ[i]?=some (some v)) (_:Q v H):Jw i σ H Q
def tC(v:V):TE:=fun _ H Q=>Q v H
theorem Jx{i:Nat}{x:Str}{pos:Pos}(hN:X.N[i]?=some x)(hv:Qk X.env.scope x)(hd:(x==("__debug__":Str))=false:=by decide)(BR:(x==("__classdict__":Str))=false:=by decide):PE X (.Name x pos) (Jw i):=by
 intro pins s σ H Q I h;obtain⟨v,e,h⟩:=h;obtain⟨m,hn,hl⟩:=I.loc;obtain⟨u,r,l⟩:=hl i x v hN e hv;have fin:EP X pins σ Q u s:=⟨v,H,I,r,h⟩
 rcases l with⟨hk,hm⟩|⟨hk,c,hc,HR⟩
 ·exact wpAny_Name (wpAny_loadName_local I.ok.kind hk hn hm fin) hd
 ·rcases hk with hk|hk
  ·exact wpAny_Name (wpAny_loadName_cell I.ok.kind hk hc HR fin) hd
  ·exact wpAny_Name (wpAny_loadName_free I.ok.kind hk hc HR fin BR) hd
theorem af{i j pos}:PE X (.Constant (.int i) j pos) (tC (.int i)):=fun _ _ _ H _ I h=>wpAny_Constant_int ⟨.int i,H,I.tok _,⟨_,rfl⟩,h⟩
theorem dO{b j pos}:PE X (.Constant (.bool b) j pos) (tC (.bl b)):=fun _ _ _ H _ I h=>Constant_bool ⟨.bl b,H,I,rfl,h⟩
theorem jO{j pos}:PE X (.Constant .none j pos) (tC .cN):=fun _ _ _ H _ I h=>Constant_none ⟨.cN,H,I,rfl,h⟩
theorem dR{x j pos}:PE X (.Constant (.str x) j pos) (tC (.str x)):=fun _ _ _ H _ I h=>Calls.Constant_str ⟨.str x,H,I.tok _,⟨_,rfl⟩,h⟩
def Gl(X:Cx)(x:Str):Prop:=X.env.kindOf x=some .globalImplicit
theorem n_{E:Value→Shared→Prop}{pins:List (Addr×Obj)}{s:Shared}{σ:St}{H:Hp}{x:Str}{u:Value}{pos:Pos}{Q:Value→Shared→Prop}(I:Inv X pins σ H s)(hg:Gl X x)(hm:X.mg x=some u)(h:Q u s)
  (hd:(x==("__debug__":Str))=false:=by decide):wpAny (model X.prog X.w) X.A (eval (.Name x pos) X.env) Q E s:=
 Calls.Name_function_global I.ok.kind hg (Calls.loadGlobal_global (by rw[I.ok.glob];exact I.mod.glob.keeps I.bk) hm h) hd
theorem lu{E:Value→Shared→Prop}{pins:List (Addr×Obj)}{s:Shared}{σ:St}{H:Hp}{x:Str}{u:Value}{pos:Pos}{Q:Value→Shared→Prop}(I:Inv X pins σ H s)(hg:Gl X x)(hm:X.mg x=none)(hv:bootBuiltins x=some u)(h:Q u s)
  (hn:x≠"__name__":=by decide) (hd:(x==("__debug__":Str))=false:=by decide):wpAny (model X.prog X.w) X.A (eval (.Name x pos) X.env) Q E s:=by
 obtain⟨mb,h1,h2⟩:=I.mod.blt;exact Calls.Name_function_global I.ok.kind hg (Calls.loadGlobal_builtin (by rw[I.ok.glob];exact I.mod.glob.keeps I.bk) hm (by rw[I.ok.blt];exact h1.keeps I.bk) ((h2 x hn).trans hv) h) hd
theorem AR{x:Str}{v:V}{u:Value}{pos:Pos}(hg:Gl X x)(hm:X.mg x=some u)(r:RelV v u)(hd:(x==("__debug__":Str))=false:=by decide):PE X (.Name x pos) (tC v):=
 fun _ _ _ H _ I h=>n_ I hg hm ⟨v,H,I,r,h⟩ hd
theorem jl{x:Str}{v:V}{u:Value}{pos:Pos}(hg:Gl X x)(hm:X.mg x=none)(hv:bootBuiltins x=some u)(r:RelV v u)(hn:x≠"__name__":=by decide)(hd:(x==("__debug__":Str))=false:=by decide):PE X (.Name x pos) (tC v):=
 fun _ _ _ H _ I h=>lu I hg hm hv ⟨v,H,I,r,h⟩ hn hd
variable{a b:Expr}{ta tb:TE}{pos:Pos}
def PC(X:Cx)(op:CmpOp)(a b:Expr)(t:TE):Prop:=
 ∀(pins:List (Addr×Obj))(s:Shared)(σ:St)(H:Hp)(Q:VK),Inv X pins σ H s→t σ H Q→
  wpAny (model X.prog X.w) X.A (eval a X.env) (fun v cn=>wpAny (model X.prog X.w) X.A (eval b X.env) (fun u p_=>wpAny (model X.prog X.w) X.A (compareOp op v u) (EP X pins σ Q) X.xe p_) X.xe cn) X.xe s
theorem bh(b:Expr){op:CmpOp}(h:op≠ .In)(h2:op≠ .NotIn):behindInMarks op b=false:=by
 have e1:(op==CmpOp.In)=false:=by cases op<;>first|rfl|exact absurd rfl h
 have e2:(op==CmpOp.NotIn)=false:=by cases op<;>first|rfl|exact absurd rfl h2
 cases b<;>simp[behindInMarks,e1,e2]
def Qr(ta:TE):TE:=fun σ H Q=>ta σ H fun x H1=>Q (.bl (decide (x= .cN))) H1
def Mz(ta:TE):TE:=fun σ H Q=>ta σ H fun x H1=>Q (.bl (!decide (x= .cN))) H1
theorem RelV.yb{x:V}{v:Value}(r:RelV x v):(v==Value.none)=decide (x= .cN):=by
 cases x with
 |cN=>cases r;rfl
 |bl _=>cases r;rfl
 |int _=>obtain⟨t,rfl⟩:=r;rfl
 |str _=>obtain⟨t,rfl⟩:=r;rfl
 |BO _=>obtain⟨t,rfl⟩:=r;rfl
 |HM _=>obtain⟨t,rfl⟩:=r;rfl
 |ref _=>cases r;rfl
 |ty _=>cases r;rfl
theorem lz{j pos'}(ha:PE X a ta):PC X .Is a (.Constant .none j pos') (Qr ta):=by
 intro pins s σ H Q I h;refine cH (ha pins s σ H _ I h) fun v s1 ⟨x,H1,I1,r1,q1⟩=>?_
 exact Constant_none (is_none_gen ⟨.bl _,H1,I1,by rw[r1.yb];rfl,q1⟩)
theorem oa{j pos'}(ha:PE X a ta):PC X .IsNot a (.Constant .none j pos') (Mz ta):=by
 intro pins s σ H Q I h;refine cH (ha pins s σ H _ I h) fun v s1 ⟨x,H1,I1,r1,q1⟩=>?_
 exact Constant_none (isnot_none_gen ⟨.bl _,H1,I1,by rw[r1.yb];rfl,q1⟩)
inductive MA(x:V)(H:Hp)(Q:Bool→Hp→Prop):Prop
 |mk (c:Bool) (_:x= .bl c) (_:Q c H):MA x H Q
def tB(t:TE):TT:=fun σ H Q=>t σ H fun x H1=>MA x H1 Q
theorem ZJ{op:CmpOp}{t:TE}(h:PC X op a b t)(h1:behindInMarks op b=false:=by first|exact bh _ (ZA) (ZA)|rfl):PE X (.Compare a [op] [b] pos) t:=fun pins s σ H Q I hw=>wpAny_Compare1 (h pins s σ H Q I hw) h1
theorem eC{op:CmpOp}{t:TE}(h:PC X op a b t)(h1:behindInMarks op b=false:=by first|exact bh _ (ZA) (ZA)|rfl):PT X (.Compare a [op] [b] pos) (tB t):=by
 intro pins s σ H Q I hw;refine wpAny_isTrue_Compare1 (cH (h pins s σ H _ I hw) fun v s1 h1=>cH h1 fun u s2 h2=>cH h2 fun c s3 ⟨x,H1,I1,r1,q1⟩=>?_) h1;obtain⟨d,rfl,q⟩:=q1;cases r1;exact wpAny_truthy_bool ⟨H1,I1,q⟩
theorem bY{e:Expr}{t:TE}(h:PE X e t)(he:∀whole,isTrue e X.env whole=(do let v←whole;standAt e.pos;holding [v] (truthy v)):=by intro _;rfl):PT X e (tB t):=by
 intro pins s σ H Q I hw;refine isTrue_plain (cH (h pins s σ H _ I hw) fun v s1 ⟨x,H1,I1,r1,q1⟩=>?_) (he _);obtain⟨d,rfl,q⟩:=q1;cases r1;exact wpAny_truthy_bool ⟨H1,I1,q⟩
variable{tA OT:TT}{rest:List Expr}
def Qs(t u:TT):TT:=fun σ H Q=>t σ H fun c H1=>if c=true then u σ H1 Q else Q false H1
def VB(t u:TT):TT:=fun σ H Q=>t σ H fun c H1=>if c=true then Q true H1 else u σ H1 Q
def Qt(t:TT):TT:=fun σ H Q=>t σ H fun c H1=>Q (!c) H1
theorem pw_and1(ha:PT X a tA):PW X (.BoolOp .And [a] pos) tA:=by
 intro wh pins s σ H Q I h;refine isTrue_and (cH (ha pins s σ H Q I h) fun c s1 e=>?_);cases c with
 |true=>exact isTrue_and_nil e
 |false=>exact e
theorem pw_or1(ha:PT X a tA):PW X (.BoolOp .Or [a] pos) tA:=by
 intro wh pins s σ H Q I h;refine isTrue_or (cH (ha pins s σ H Q I h) fun c s1 e=>?_);cases c with
 |false=>exact isTrue_or_nil e
 |true=>exact e
theorem pw_and(ha:PT X a tA)(hb:PW X (.BoolOp .And (b::rest) pos) OT):PW X (.BoolOp .And (a::b::rest) pos) (Qs tA OT):=by
 intro wh pins s σ H Q I h;refine isTrue_and (cH (ha pins s σ H _ I h) fun c s1 ⟨H1,I1,q1⟩=>?_);cases c with
 |true=>exact hb wh pins s1 σ H1 Q I1 q1
 |false=>exact⟨H1,I1,q1⟩
theorem pw_or(ha:PT X a tA)(hb:PW X (.BoolOp .Or (b::rest) pos) OT):PW X (.BoolOp .Or (a::b::rest) pos) (VB tA OT):=by
 intro wh pins s σ H Q I h;refine isTrue_or (cH (ha pins s σ H _ I h) fun c s1 ⟨H1,I1,q1⟩=>?_);cases c with
 |true=>exact⟨H1,I1,q1⟩
 |false=>exact hb wh pins s1 σ H1 Q I1 q1
theorem cJ(ha:PT X a tA):PT X (.UnaryOp .Not a pos) (Qt tA):=by
 intro pins s σ H Q I h;exact isTrue_not (ha pins s σ H (fun c H1=>Q (!c) H1) I h)
def MB(ta tb:TE):TE:=fun σ H Q=>ta σ H fun x H1=>∃c,x= .bl c∧if c=true then tb σ H1 Q else Q (.bl false) H1
def MD(ta:TE):TE:=fun σ H Q=>ta σ H fun x H1=>∃c,x= .bl c∧Q (.bl (!c)) H1
theorem vR{op}{t:TE}(h:PE X a t):PE X (.BoolOp op [a] pos) t:=fun pins s σ H Q I hw=>BoolOp_one (h pins s σ H Q I hw)
theorem vS(ha:PE X a ta)(hb:PE X (.BoolOp .And (b::rest) pos) tb):PE X (.BoolOp .And (a::b::rest) pos) (MB ta tb):=by
 intro pins s σ H Q I h;refine BoolOp_and (cH (ha pins s σ H _ I h) fun v s1 ⟨x,H1,I1,r1,q1⟩=>?_);obtain⟨c,rfl,q1⟩:=q1;cases r1;refine wpAny_truthy_bool ?_;cases c with
 |true=>exact hb pins s1 σ H1 Q I1 q1
 |false=>exact⟨.bl false,H1,I1,rfl,q1⟩
theorem Jy(ha:PE X a ta):PE X (.UnaryOp .Not a pos) (MD ta):=by
 intro pins s σ H Q I h;refine UnaryOp_ (cH (ha pins s σ H _ I h) fun v s1 ⟨x,H1,I1,r1,q1⟩=>?_);obtain⟨c,rfl,q1⟩:=q1;cases r1;exact not_of (wpAny_truthy_bool ⟨.bl (!c),H1,I1,rfl,q1⟩)
def VC(t:TT)(ta tb:TE):TE:=fun σ H Q=>t σ H fun c H1=>if c=true then ta σ H1 Q else tb σ H1 Q
theorem oe{c:Expr}(hc:PT X c tA)(ha:PE X a ta)(hb:PE X b tb):PE X (.IfExp c a b pos) (VC tA ta tb):=by
 intro pins s σ H Q I h;refine wpAny_IfExp (cH (hc pins s σ H _ I h) fun d s1 ⟨H1,I1,q1⟩=>?_);cases d with
 |true=>exact ha pins s1 σ H1 Q I1 q1
 |false=>exact hb pins s1 σ H1 Q I1 q1
end
def iC(K:PySem.W.Frag)(H:Hp)(a:Addr)(xs:List V):Prop:=
 Rd H a (.lst xs)∨
  ∃(o:Obj)(its:Array Value)(n:Nat),K.lookup a=some o∧o.cls= .type "list"∧o.dict=none∧o.data= .seq its n∧its.size≤sizeLine∧Vals xs its.toList
def Dv(K:PySem.W.Frag)(H:Hp)(a:Addr)(xs:List V):Prop:=
 Rd H a (.tup xs)∨
  ∃(o:Obj)(its:Array Value)(n:Nat),K.lookup a=some o∧o.cls= .type "tuple"∧o.data= .seq its n∧its.size≤sizeLine∧Vals xs its.toList
def Qu:Value→Option V
 | .none=>some .cN
 | .bool b=>some (.bl b)
 | .int i _=>some (.int i)
 | .str x _=>some (.str x)
 | .bytes b _=>some (.BO b)
 | .float b _=>some (.HM b)
 | .ref a=>some (.ref a)
 | .type n=>some (.ty n)
 | _=>none
theorem RelV.abs{x:V}{u:Value}(r:RelV x u):Qu u=some x:=by
 cases x with
 |cN=>cases r;rfl
 |bl _=>cases r;rfl
 |int _=>obtain⟨t,rfl⟩:=r;rfl
 |str _=>obtain⟨t,rfl⟩:=r;rfl
 |BO _=>obtain⟨t,rfl⟩:=r;rfl
 |HM _=>obtain⟨t,rfl⟩:=r;rfl
 |ref _=>cases r;rfl
 |ty _=>cases r;rfl
theorem RelV.inj{x y:V}{u:Value}(r:RelV x u)(q:RelV y u):x=y:=Zt (r.abs.symm.trans q.abs)
theorem Vals.inj:∀{xs ys:List V}{us:List Value},Vals xs us→Vals ys us→xs=ys
 | _,_,_, .nil, .nil=>rfl
 | _,_,_, .cons r t, .cons r' t'=>by rw[r.inj r',Vals.inj t t']
section
variable{X:Cx}{pins:List (Addr×Obj)}{σ:St}{H:Hp}{s:Shared}{a:Addr}{xs ys:List V}
theorem iC.of{K:PySem.W.Frag}(h:H a=some (.lst xs)):iC K H a xs:= .inl (.inl h)
theorem Dv.of{K:PySem.W.Frag}(h:H a=some (.tup xs)):Dv K H a xs:= .inl (.inl h)
theorem Inv.list(I:Inv X pins σ H s)(h:iC X.K H a xs):∃its:List Value,Vals xs its∧PlainL s.heap a its.toArray∧xs.length≤sizeLine:=by
 rcases h with h|⟨o,its,n,hk,hc,hd,hs,hz,r⟩
 ·obtain⟨z,its,n,r,e⟩:=h.ok I.bX;exact⟨its,r,⟨_,n,e,rfl,rfl,rfl⟩,z⟩
 ·refine⟨its.toList,r,⟨o,n,I.p9 a o hk,hc,hd,by simpa using hs⟩,?_⟩;have e:=r.length;simp only[Array.length_toList]at e;omega
theorem Inv.tuple(I:Inv X pins σ H s)(h:Dv X.K H a xs):∃its:List Value,Vals xs its∧IsTup s.heap a its.toArray∧xs.length≤sizeLine:=by
 rcases h with h|⟨o,its,n,hk,hc,hs,hz,r⟩
 ·obtain⟨z,its,r,p⟩:=h.ok I.bX;exact⟨its,r,p,z⟩
 ·refine⟨its.toList,r,⟨o,I.p9 a o hk,hc,n,by simpa using hs⟩,?_⟩;have e:=r.length;simp only[Array.length_toList]at e;omega
theorem Inv.yc(I:Inv X pins σ H s)(h:iC X.K H a xs)(h':iC X.K H a ys):xs=ys:=by
 obtain⟨its,r,⟨o,n,e,_,_,d⟩,_⟩:=I.list h;obtain⟨its',r',⟨o',n',e',_,_,d'⟩,_⟩:=I.list h';rw[e]at e';cases e';rw[d]at d';injection d' with d1 _;have:its=its':=by simpa using congrArg Array.toList d1
 subst this;exact r.inj r'
end
abbrev Cx.VD(X:Cx)(E:Value→Shared→Prop):Cx:={X with xe:=E}
section
variable{X:Cx}{pins:List (Addr×Obj)}{σ:St}{H:Hp}{s:Shared}{E:Value→Shared→Prop}
end
section
variable{X:Cx}{st:Stmt}{rest:List Stmt}{t u:TS}{e:Expr}{te:TE}{pos:Pos}
def ME:TS:=fun D σ H=>D.nx σ H
def Qv(t u:TS):TS:=fun D σ H=>t {D with nx:=u D} σ H
theorem aP:BQ X [] ME:=fun _ _ σ H _ I h=>wpAny_execs_nil ⟨σ,H,I,h⟩
theorem av(h1:PS X st t)(h2:BQ X rest u):BQ X (st::rest) (Qv t u):=by
 intro pins s σ H D I h;refine wpAny_execs_cons (cH (h1 pins s σ H {D with nx:=u D} I h) fun f s1 q=>?_);cases f with
 |next=>
  obtain⟨bD,H',I',q⟩:=q;exact h2 pins s1 bD H' D I' q
 |ret v=>exact q
 |brk=>exact q
 |cont=>exact q
theorem aq(h1:PS X st t):BQ X [st] t:=by
 intro pins s σ H D I h;refine wpAny_execs_cons (cH (h1 pins s σ H D I h) fun f s1 q=>?_);cases f with
 |next=>exact wpAny_execs_nil q
 |ret v=>exact q
 |brk=>exact q
 |cont=>exact q
theorem Inv.quiet{pins:List (Addr×Obj)}{σ:St}{H:Hp}{s:Shared}(I:Inv X pins σ H s):interactive X.env=false:=by simp[interactive,I.ok.kind]
def MF(te:TE):TS:=fun D σ H=>te σ H fun _ H1=>D.nx σ H1
theorem a8(he:PE X e te)(hs:swapsWith e none pos.line X.env=pure false:=by rfl):PS X (.Expr e pos) (MF te):=by
 intro pins s σ H D I h;exact wpAny_Expr_any (cH (he pins s σ H _ I h) fun v s1 ⟨x,H1,I1,r1,q1⟩=>⟨σ,H1,I1,q1⟩) I.quiet hs
def Qw(te:TE):TS:=fun D σ H=>te σ H D.rt
theorem aL(he:PE X e te):PS X (.Return (some e) pos) (Qw te):=by
 intro pins s σ H D I h;exact wpAny_Return_some (cH (he pins s σ H _ I h) fun v s1 ⟨x,H1,I1,r1,q1⟩=>⟨x,σ,H1,I1,r1,q1⟩)
def Qx(c:TT)(t u:TS):TS:=fun D σ H=>c σ H fun b H1=>if b=true then t D σ H1 else u D σ H1
theorem a7{c:Expr}{a b:List Stmt}{tc:TT}(hc:PT X c tc)(ha:BQ X a t)(hb:BQ X b u):PS X (.If c a b pos) (Qx tc t u):=by
 intro pins s σ H D I h;refine wpAny_If (cH (hc pins s σ H _ I h) fun d s1 ⟨H1,I1,q1⟩=>?_);cases d with
 |true=>exact ha pins s1 σ H1 D I1 q1
 |false=>exact hb pins s1 σ H1 D I1 q1
end
abbrev TG:=V→St→Hp→(St→Hp→Prop)→Prop
abbrev HS:=List V→St→Hp→(St→Hp→Prop)→Prop
def PG(X:Cx)(target:Expr)(t:TG):Prop:=
 ∀(pins:List (Addr×Obj))(s:Shared)(σ:St)(H:Hp)(v:V)(u:Value)(Q:St→Hp→Prop),Inv X pins σ H s→RelV v u→t v σ H Q→
  wpAny (model X.prog X.w) X.A (assign target X.env u) (fun _ s'=>∃bD H',Inv X pins bD H' s'∧Q bD H') X.xe s
def MI(X:Cx)(ts:List Expr)(t:HS):Prop:=
 ∀(pins:List (Addr×Obj))(s:Shared)(σ:St)(H:Hp)(vs:List V)(us:List Value)(Q:St→Hp→Prop),Inv X pins σ H s→Vals vs us→t vs σ H Q→
  wpAny (model X.prog X.w) X.A (assignInOrder ((assignEach ts X.env).map (·.2)) us) (fun _ s'=>∃bD H',Inv X pins bD H' s'∧Q bD H') X.xe s
abbrev Jz:=V→V→V→Hp→(Hp→Prop)→Prop
def MJ(X:Cx)(t:Jz):Prop:=
 ∀(pins:List (Addr×Obj))(s:Shared)(σ:St)(H:Hp)(o i v:V)(ov iv u:Value)(Q:Hp→Prop),Inv X pins σ H s→RelV o ov→RelV i iv→RelV v u→t o i v H Q→
  wpAny (model X.prog X.w) X.A (setItem ov iv u) (fun _ s'=>∃H',Inv X pins σ H' s'∧Q H') X.xe s
section
variable{X:Cx}{pos:Pos}
def AS(i:Nat):TG:=fun v σ H Q=>Q (σ.set i (some v)) H
theorem aN{i:Nat}{x:Str}(hN:X.N.Nodup)(hi:X.N[i]?=some x)(hx:Loc X.env.scope x)(hf:X.fn x=true∨X.env.scope.names.lookup x=some .local:=by first|exact .inl rfl|exact .inr rfl|assumption):PG X (.Name x pos) (AS i):=by
 intro pins s σ H v u Q I r h;exact wpAny_assign_Name (ya I hN hi hx r (fun s' I'=>⟨_,H,I',h⟩) hf)
def Qy:HS:=fun vs σ H Q=>vs=[]∧Q σ H
def MK(t:TG)(u:HS):HS:=fun vs σ H Q=>∃v r,vs=v::r∧t v σ H fun bD H'=>u r bD H' Q
theorem f7:MI X [] Qy:=by
 intro pins s σ H vs us Q I r h;obtain⟨e,h⟩:=h;subst e;cases r;exact assignInOrder_nil ⟨σ,H,I,h⟩
theorem bb{e:Expr}{es:List Expr}{t:TG}{u:HS}(h1:PG X e t)(h2:MI X es u)
  (hs:(assignEach (e::es) X.env).map (·.2)=assign e X.env::(assignEach es X.env).map (·.2):=by rfl):MI X (e::es) (MK t u):=by
 intro pins s σ H vs us Q I r h;obtain⟨v,vr,e1,h⟩:=h;subst e1;cases r with
 |cons r rr=>
  rw[hs];refine assignInOrder_cons (cH (h1 pins s σ H _ _ _ I r h) fun _ s1 ⟨LL,H1,I1,q1⟩=>?_);exact h2 pins s1 LL H1 _ _ Q I1 rr q1
inductive JA(K:PySem.W.Frag)(n:Nat)(t:HS)(v:V)(σ:St)(H:Hp)(Q:St→Hp→Prop):Prop
 |mk (a:_) (xs:_) (_:v= .ref a) (_:Dv K H a xs) (_:xs.length=n) (_:t xs σ H Q):JA K n t v σ H Q
theorem JB{es:List Expr}{k:Nat}{t:HS}{n:Nat}(hc:X.calm=true)(h:MI X es t)
  (hn:(assignEach es X.env).length=n:=by rfl) (u9:(assignEach es X.env).findIdx? (·.1)=none:=by rfl):PG X (.Tuple es k pos) (JA X.K n t):=by
 intro pins s σ H v u Q I r hw;obtain⟨a,xs,e1,hq,hl,hw⟩:=hw;subst e1;cases r;obtain⟨its,rv,ht,hz⟩:=I.tuple hq;refine assign_Tuple_tuple (I.ok.hd hc) ht (by simp[hn,←hl,rv.length]) u9 fun h' hx=>?_
 have I1:Inv X pins σ H {s with heap:=h'}:=I.kept (t':=s.toks) fun b o e=>hx b o (Nat.ne_of_lt (Heap.lt_size e)) e
 exact h pins _ σ H xs _ Q I1 (by simpa using rv) hw
def Qz(to ti:TE)(t:Jz):TG:=fun v σ H Q=>to σ H fun o H1=>ti σ H1 fun i H2=>t o i v H2 fun H3=>Q σ H3
theorem JC{o i:Expr}{to ti:TE}{t:Jz}(ho:PE X o to)(hi:PE X i ti)(hs:MJ X t)
  (ha:∀v,assign (.Subscript o i pos) X.env v=(do
   let ov←holding [v] (eval o X.env)
   let iv←holding [v,ov] (eval i X.env)
   standAt pos
   holding [v,ov,iv] (setItem ov iv v)
   release [v,ov,iv] []):=by intro _;rfl):PG X (.Subscript o i pos) (Qz to ti t):=by
 intro pins s σ H v u Q I r h;rw[ha];refine wpAny_bind (wpAny_holding (cH (ho pins s σ H _ I h) fun ov s1 ⟨x,H1,I1,r1,q1⟩=>?_));refine wpAny_bind (wpAny_holding (cH (hi pins s1 σ H1 _ I1 q1) fun iv s2 ⟨y,H2,I2,r2,q2⟩=>?_));refine wpAny_bind (wpAny_standAt (wpAny_bind (wpAny_holding (cH (hs pins s2 σ H2 x y v ov iv u _ I2 r1 r2 r q2) fun _ s3 ⟨H3,I3,q3⟩=>?_))));exact wpAny_release ⟨σ,H3,I3,q3⟩
def JD(te:TE)(g:TG):TS:=fun D σ H=>te σ H fun x H1=>g x σ H1 D.nx
theorem ZM{tg e:Expr}{te:TE}{g:TG}(he:PE X e te)(hg:PG X tg g)(hs:swapsWithSole [tg] e pos.line X.env=pure false:=by rfl)(hw:swappedStores [tg] e X.env=pure none:=by rfl)
  (h1:(assignEach [tg] X.env).map (·.2)=[assign tg X.env]:=by rfl):PS X (.Assign [tg] e pos) (JD te g):=by
 intro pins s σ H D I h;refine wpAny_Assign_stores (cH (he pins s σ H _ I h) fun v s1 ⟨x,H1,I1,r1,q1⟩=>?_) hs hw;rw[h1];exact cH (hg pins s1 σ H1 x v _ I1 r1 q1) fun _ s2 q=>q
theorem aG{i:Nat}{x:Str}{e:Expr}{te:TE}{pos':Pos}(hN:X.N.Nodup)(hi:X.N[i]?=some x)(hx:Loc X.env.scope x)(he:PE X e te)(hs:swapsWith e (some (.Name x pos')) pos.line X.env=pure false:=by rfl)(hf:X.fn x=true∨X.env.scope.names.lookup x=some .local:=by first|exact .inl rfl|exact .inr rfl|assumption):
  PS X (.Assign [.Name x pos'] e pos) (JD te (AS i)):=by
 intro pins s σ H D I h;refine wpAny_Assign_Name (cH (he pins s σ H _ I h) fun v s1 ⟨y,H1,I1,r1,q1⟩=>?_) hs;exact ya I1 hN hi hx r1 (fun s2 I2=>⟨_,H1,I2,q1⟩) hf
end
section
variable{X:Cx}{pos:Pos}
def JE(c:TT)(tb:TS):TS:=fun D σ H=>∃W:Nat→St→Hp→Prop,(∃m,W m σ H)∧∀m σ H,W m σ H→
 c σ H fun b H1=>if b=true then ∃N:St→Hp→Prop,(∀bD H',N bD H'→∃m',m'<m∧W m' bD H')∧tb {D with nx:=N,ct:=N,bk:=D.nx} σ H1 else D.nx σ H1
theorem sr{c:Expr}{body:List Stmt}{tc:TT}{tb:TS}(hp:PassesOwn (model X.prog X.w) X.A X.env X.xe)(hc:PT X c tc)(hb:BQ X body tb):PS X (.While c body [] pos) (JE tc tb):=by
 intro pins s σ H D I h;obtain⟨W,⟨m0,w0⟩,turn⟩:=h;refine wpAny_While (codeAny_whileLoop (fun n s'=>∃bD H',Inv X pins bD H' s'∧W n bD H') ?_ m0 ⟨σ,H,I,w0⟩);rintro n s1 ⟨LL,H1,I1,w1⟩;refine wpAny_passesOwn hp (cH (hc pins s1 LL H1 _ I1 (turn n LL H1 w1)) fun b s2 ⟨H2,I2,q2⟩=>?_);cases b with
 |true=>
  obtain⟨N,hN,q2⟩:=q2;rw[if_pos rfl];refine wpAny_passesOwn hp (cH (hb pins s2 LL H2 _ I2 q2) fun f s3 q3=>?_);cases f with
  |next=>
   obtain⟨Dx,H3,I3,n3⟩:=q3;obtain⟨m',hm,w3⟩:=hN Dx H3 n3;exact⟨m',hm,Dx,H3,I3,w3⟩
  |cont=>
   obtain⟨Dx,H3,I3,n3⟩:=q3;obtain⟨m',hm,w3⟩:=hN Dx H3 n3;exact⟨m',hm,Dx,H3,I3,w3⟩
  |brk=>exact q3
  |ret v=>exact q3
 |false=>
  rw[Zm Bool.false_ne_true];exact wpAny_execs_nil ⟨LL,H2,I2,q2⟩
end
structure It where
 go:Nat→Hp→Prop
 F1:Nat→Hp→V→Hp→Prop
 stop:Nat→Hp→Prop
def iu(X:Cx)(pins:List (Addr×Obj))(H:Hp)(b:Addr):Prop:=
 H b=none∧b≠X.env.locals∧b∉X.fs∧(b∈X.ex∨X.dz.heap.objs.size≤b)∧(∀x c,X.env.cells.lookup x=some c→c≠b)∧∀p∈X.pn++pins,p.1≠b
theorem Inv.uo{X:Cx}{pins:List (Addr×Obj)}{σ:St}{H H':Hp}{s:Shared}{b:Addr}(I:Inv X pins σ H s)(hb:s.heap.objs.size≤b)(hn:H' b=none):iu X pins H' b:=by
 refine⟨hn,Nat.ne_of_gt (Nat.lt_of_lt_of_le I.lt hb),I.Qn hb, .inr (Nat.le_trans I.sz hb),fun x c e z=>?_,fun p hp z=>?_⟩
 ·obtain⟨v,q⟩:=I.cell x c e;exact absurd (Nat.lt_of_lt_of_le q.lt (by rw[z];exact hb)) (Nat.lt_irrefl _)
 ·exact absurd (Nat.lt_of_lt_of_le (Heap.lt_size (I.pin p hp).1) (by rw[z];exact hb)) (Nat.lt_irrefl _)
structure Turn(P:Program)(w:World)(K:PySem.W.Frag)(tg:Expr)(J:It)(fp:List Addr)(it:Addr)(tn:Nat→Heap→Prop):Prop where
 mem:it∈fp
 obj:∀i h,tn i h→∀b∈fp,∃o,h.get? b=some o∧∀v,o.data≠ .cell v
 keep:∀i h h',tn i h→(∀b∈fp,∀o,h.get? b=some o→h'.get? b=some o)→tn i h'
 item:∀(X:Cx),X.prog=P→X.w=w→X.K=K→X.calm=true→∀(i:Nat)(pins:List (Addr×Obj))(s:Shared)(σ:St)(H:Hp)(E:Value→Shared→Prop),Inv X pins σ H s→(∀b∈fp,iu X pins H b)→tn i s.heap→J.go i H→
  wpAny (model P w) X.A (pyNext (.ref it)) (fun r s1=>∃u,r=some u∧
   wpAny (model P w) X.A (letOwnedTupleGo tg (.ref it) u) (fun _ s2=>∃x H',Inv X pins σ H' s2∧RelV x u∧J.F1 i H x H'∧tn (i+1) s2.heap∧∀b∈fp,H' b=none) E s1) E s
 done:∀(X:Cx),X.prog=P→X.w=w→X.K=K→X.calm=true→∀(i:Nat)(pins:List (Addr×Obj))(s:Shared)(σ:St)(H:Hp)(E:Value→Shared→Prop),Inv X pins σ H s→(∀b∈fp,iu X pins H b)→tn i s.heap→J.stop i H→
  wpAny (model P w) X.A (pyNext (.ref it)) (fun r s1=>r=none∧Inv X pins σ H s1) E s
 self:∀(A:Around)(i:Nat)(s:Shared)(Q:Value→Shared→Prop)(E:Value→Shared→Prop),tn i s.heap→Q (.ref it) s→wpAny (model P w) A (pyIter (.ref it)) Q E s
abbrev TI:=St→Hp→(It→Hp→Prop)→Prop
def QA(X:Cx)(pins:List (Addr×Obj))(σ:St)(tg:Expr)(R:It→Hp→Prop)(QB:Value)(s2:Shared):Prop:=
 ∃(it:Addr)(fp:List Addr)(tn:Nat→Heap→Prop)(J:It)(H':Hp),QB= .ref it∧Inv X pins σ H' s2∧Turn X.prog X.w X.K tg J fp it tn∧tn 0 s2.heap∧(∀b∈fp,iu X pins H' b)∧R J H'
def PI(X:Cx)(tg iter:Expr)(wi:TI):Prop:=
 ∀(pins:List (Addr×Obj))(s:Shared)(σ:St)(H:Hp)(R:It→Hp→Prop),Inv X pins σ H s→wi σ H R→
  wpAny (model X.prog X.w) X.A (eval iter X.env) (fun v s1=>wpAny (model X.prog X.w) X.A (pyIter v) (QA X pins σ tg R) X.xe s1) X.xe s
theorem yd{M:Model}{A:Around}{E:Value→Shared→Prop}{s:Shared}{tg:Expr}{it:Addr}{u:Value}{o:Obj}{n:String}{vs:Array Value}{Q:Unit→Shared→Prop}(ho:s.heap.get? it=some o)(hc:o.cls= .type n)(hd:o.data= .fields vs)
  (hn:["enumerate","zip","dict_itemiterator","dict_reverseitemiterator","odict_iterator","itertools.zip_longest","itertools.pairwise"].contains n=false) (hQ:Q () s):wpAny M A (letOwnedTupleGo tg (.ref it) u) Q E s:=by
 unfold letOwnedTupleGo;cases tg<;>first
  |exact wpAny_pure hQ
  |(cases u<;>first
    |exact wpAny_pure hQ
    |(refine wpAny_bind (wpAny_load ho ?_)
      rw[hc,hd];show wpAny M A (if (["enumerate","zip","dict_itemiterator","dict_reverseitemiterator","odict_iterator","itertools.zip_longest","itertools.pairwise"].contains n&&vs[0]?==some (rawInt _))=true then _ else _) Q E s;rw[Zm (by intro h;rw[hn,Bool.false_and]at h;cases h)];exact wpAny_pure hQ))
def LM(K:PySem.W.Frag)(a:Addr):It:=
 ⟨fun i H=>∃xs x,iC K H a xs∧xs[i]?=some x,fun i H x H'=>H'=H∧∀xs,iC K H a xs→xs[i]?=some x,fun i H=>∃xs,iC K H a xs∧xs.length≤i⟩
def JF(lo:Int)(n:Nat):It:=⟨fun i _=>i<n,fun i H x H'=>H'=H∧x= .int (lo+i),fun i _=>n≤i⟩
theorem BS{P:Program}{w:World}{K:PySem.W.Frag}{tg:Expr}(a it:Addr):Turn P w K tg (LM K a) [it] it (fun i h=>h.IsListIter it a i) where
 mem:=ZD
 obj:=fun i h st b hb=>by
  have e:b=it:=by simpa using hb
  subst e;obtain⟨o,e,c,d⟩:=st;exact⟨o,e,fun v z=>by rw[d]at z;cases z⟩
 keep:=fun i h h' st k=>st.at fun o e=>k it (ZD) o e
 item:=by
  intro X hP hw hK hc i pins s σ H E I hf st hg;subst hP hw hK;obtain⟨xs,x,hq,hx⟩:=hg;obtain⟨its,rv,p,hz⟩:=I.list hq;obtain⟨u,hu,ru⟩:=rv.get hx;obtain⟨f0,f1,f2,f3,f4,f5⟩:=hf it (ZD);refine wpAny_pyNext_list_item st p.isList (x:=u) (by simpa using hu) fun h' aT sb=>?_
  have I1:Inv X pins σ H {s with heap:=h'}:=I.turned (t':=s.toks) (fun b o hb e=>(sb.2 b hb).trans e) f0 f1 f3 f4 f5;obtain⟨o,e,c,d⟩:=id aT;exact⟨u,rfl,yd (s:={s with heap:=h'}) e c d (ZA) ⟨x,H,I1,ru,⟨rfl,fun ys hy=>by rw[I.yc hy hq];exact hx⟩,aT,fun b hb=>(hf b hb).1⟩⟩
 done:=by
  intro X hP hw hK hc i pins s σ H E I hf st hg;subst hP hw hK;obtain⟨xs,hq,hx⟩:=hg;obtain⟨its,rv,p,hz⟩:=I.list hq;obtain⟨f0,f1,f2,f3,f4,f5⟩:=hf it (ZD);have hl:=rv.length;exact wpAny_pyNext_list_end (I.ok.hd hc) st p.isList (by simp;omega) fun h' eb=>⟨rfl,I.turned (t':=s.toks) (fun b o hb e=>eb b o hb e) f0 f1 f3 f4 f5⟩
 self:=fun _ _ _ _ _ st h=>wpAny_pyIter_listiter st h
theorem ZT{P:Program}{w:World}{K:PySem.W.Frag}{tg:Expr}(it:Addr)(lo:Int)(n:Nat):Turn P w K tg (JF lo n) [it] it (fun i h=>IsRangeIter h it (lo+(i:Nat)*1) ((n:Int)-(i:Nat)) 1) where
 mem:=ZD
 obj:=fun i h st b hb=>by
  have e:b=it:=by simpa using hb
  subst e;exact⟨_,st,fun v z=>by
   have z':Data.fields _=Data.cell v:=z;cases z'⟩
 keep:=fun i h h' st k=>k it (ZD) _ st
 item:=by
  intro X hP hw hK hc i pins s σ H E I hf st hg;subst hP hw hK;obtain⟨f0,f1,f2,f3,f4,f5⟩:=hf it (ZD);have W:=Walks.range (prog:=X.prog) (w:=X.w) (I.ok.hd hc) it lo 1 n;refine W.item i s _ _ hg st fun v h' tk hv aT kk=>?_
  obtain⟨t,rfl⟩:=hv;have I1:Inv X pins σ H {s with heap:=h',toks:=tk}:=I.turned (fun b o hb e=>kk b o (by simpa using hb) e) f0 f1 f3 f4 f5;refine⟨_,rfl,yd (s:={s with heap:=h',toks:=tk}) (n:="range_iterator") aT rfl rfl (ZA) ⟨.int (lo+i),H,I1,⟨t,?_⟩,⟨rfl,rfl⟩,aT,fun b hb=>(hf b hb).1⟩⟩;rw[Int.mul_one]
 done:=by
  intro X hP hw hK hc i pins s σ H E I hf st hg;subst hP hw hK;obtain⟨f0,f1,f2,f3,f4,f5⟩:=hf it (ZD);exact wpAny_pyNext_range_end (I.ok.hd hc) st (by have:n≤i:=hg;omega) fun h' eb=>⟨rfl,I.turned (t':=s.toks) (fun b o hb e=>eb b o hb e) f0 f1 f3 f4 f5⟩
 self:=fun _ _ _ _ _ st h=>wpAny_pyIter_rangeiter st h
section
variable{X:Cx}{tg:Expr}
def HU(K:PySem.W.Frag)(tl:TE):TI:=fun σ H R=>tl σ H fun x H1=>∃a,x= .ref a∧(∃xs,iC K H1 a xs)∧R (LM K a) H1
theorem F2{l:Expr}{tl:TE}(hl:PE X l tl):PI X tg l (HU X.K tl):=by
 intro pins s σ H R I h;refine cH (hl pins s σ H _ I h) fun v s1 ⟨x,H1,I1,r1,q1⟩=>?_
 obtain⟨a,e,⟨xs,hq⟩,q⟩:=q1;subst e;cases r1;obtain⟨its,rv,p,hz⟩:=I1.list hq;refine wpAny_pyIter_list p.isList ?_;refine⟨s1.heap.objs.size,[s1.heap.objs.size],_,_,H1,rfl,I1.kept (t':=s1.toks) fun b o e=>Zn e,BS a _,⟨_,Heap.get?_push_size _ rfl,rfl,rfl⟩,fun b hb=>?_,q⟩;have e:b=s1.heap.objs.size:=by simpa using hb
 subst e;exact I1.uo (Nat.le_refl _) (I1.bX.fresh (Nat.le_refl _))
theorem Dy{pins:List (Addr×Obj)}{σ:St}{H:Hp}{s:Shared}{R:It→Hp→Prop}{E:Value→Shared→Prop}{lo hi:Int}{t u v:Tok}{tk:Nat}(I:Inv X pins σ H s)(h1:-(2^62)≤lo)(h2:lo<2^62)(h3:-(2^62)≤hi)(h4:hi<2^62)
  (q:R (JF lo (hi-lo).toNat) H):wpAny (model X.prog X.w) X.A (pyIter (.ref s.heap.objs.size)) (QA X pins σ tg R) E {s with heap:=s.heap.push {cls:= .type "range",data:= .fields #[.int lo t, .int hi u, .int 1 v]},toks:=tk}:=by
 refine wpAny_pyIter_range (IsRange.new ..) (small_one h1 h2 h3 h4) ?_;have I1:Inv X pins σ H {s with heap:=s.heap.push {cls:= .type "range",data:= .fields #[.int lo t, .int hi u, .int 1 v]},toks:=tk}:=I.kept fun b o e=>Zn e
 refine⟨(s.heap.push {cls:= .type "range",data:= .fields #[.int lo t, .int hi u, .int 1 v]}).objs.size,[(s.heap.push {cls:= .type "range",data:= .fields #[.int lo t, .int hi u, .int 1 v]}).objs.size],_,_,H,rfl,
  I1.kept (t':=tk) fun b o e=>Zn e,ZT _ lo (hi-lo).toNat,?_,fun b hb=>?_,q⟩
 ·have e1:lo+((0:Nat):Int)*1=lo:=ZD;have e2:(((hi-lo).toNat:Nat):Int)-((0:Nat):Int)=Builtin.Range.rangeSize lo hi 1:=by rw[rangeSize_one];split<;>omega
  show IsRangeIter _ _ (lo+((0:Nat):Int)*1) ((((hi-lo).toNat:Nat):Int)-((0:Nat):Int)) 1;rw[e1,e2];exact Heap.get?_push_size _ rfl
 ·have e:b=(s.heap.push {cls:= .type "range",data:= .fields #[.int lo t, .int hi u, .int 1 v]}).objs.size:=by simpa using hb
  subst e;exact I1.uo (Nat.le_refl _) (I1.bX.fresh (Nat.le_refl _))
def MN(ta:TA):TI:=fun σ H R=>ta σ H fun vs H1=>∃j:Int,vs=[.int j]∧-(2^62)≤j∧j<2^62∧R (JF 0 j.toNat) H1
theorem eA{a:Expr}{ta:TA}{p pos:Pos}(hg:Gl X "range")(hm:X.mg "range"=none)(ha:PA X [a] ta)(hs:starEach [a] X.env=[(false,eval a X.env)]:=by rfl):PI X tg (.Call (.Name "range" p) [a] [] pos) (MN ta):=by
 intro pins s σ H R I h;refine Call_ (lu I hg hm boot_range (PyProof.Rows.callWith_type1 (cH (ha pos pins s σ H _ I h) fun us s1 ⟨vs,H1,I1,r1,q1⟩=>?_) hs rfl));obtain⟨j,e,q1,q2,q⟩:=q1;subst e;cases r1 with
 |cons r rr=>
  cases rr;obtain⟨t,rfl⟩:=r;exact call_range_1 (Dy I1 Zw (Zz) q1 q2 (by simpa using q))
def QC(wi:TI)(g:TG)(tb:TS):TS:=fun D σ H=>wi σ H fun J H1=>∃W:Nat→Nat→St→Hp→Prop,(∃m,W 0 m σ H1)∧∀i m σ H,W i m σ H→
 (J.stop i H∧D.nx σ H)∨(J.go i H∧∃N:St→Hp→Prop,(∀bD H',N bD H'→∃m',m'<m∧W (i+1) m' bD H')∧∀x H',J.F1 i H x H'→g x σ H' fun fZ H2=>tb {D with nx:=N,ct:=N,bk:=D.nx} fZ H2)
def su(fp:List Addr)(h:Heap):List (Addr×Obj):=fp.filterMap fun b=>(h.get? b).map fun o=>(b,o)
theorem gO{fp:List Addr}{h:Heap}{b:Addr}{o:Obj}(hb:b∈fp)(e:h.get? b=some o):(b,o)∈su fp h:=List.mem_filterMap.mpr ⟨b,hb,by rw[e];rfl⟩
theorem BU{fp:List Addr}{h:Heap}{p:Addr×Obj}(hp:p∈su fp h):p.1∈fp∧h.get? p.1=some p.2:=by
 obtain⟨b,hb,e⟩:=List.mem_filterMap.mp hp;cases q:h.get? b with
 |none=>rw[q]at e;cases e
 |some o=>
  rw[q]at e;have e':(b,o)=p:=Zt e;subst e';exact⟨hb,q⟩
theorem Inv.pinned{pins:List (Addr×Obj)}{σ:St}{H:Hp}{s:Shared}{fp:List Addr}(I:Inv X pins σ H s)(hf:∀b∈fp,iu X pins H b)(ho:∀b∈fp,∃o,s.heap.get? b=some o∧∀v,o.data≠ .cell v):Inv X (pins++su fp s.heap) σ H s:=
 I.AO fun p hp=>(List.mem_append.mp hp).elim (fun z=>I.pin p (List.mem_append_right _ z)) fun z=>by
  obtain⟨hb,e⟩:=BU z;obtain⟨f0,f1,f2,_⟩:=hf p.1 hb;obtain⟨o,e',d⟩:=ho p.1 hb;rw[e]at e';cases e';exact⟨e,f0,f1,f2,d⟩
theorem Inv.lA{pins pl:List (Addr×Obj)}{σ:St}{H:Hp}{s:Shared}(I:Inv X (pins++pl) σ H s):Inv X pins σ H s:=I.AO fun p hp=>I.pin p (List.mem_append_right _ (List.mem_append_left _ hp))
theorem bG{iter:Expr}{body:List Stmt}{wi:TI}{g:TG}{tb:TS}{pos:Pos}(hp:PassesOwn (model X.prog X.w) X.A X.env X.xe)(hc:X.calm=true)(hi:PI X tg iter wi)(hg:PG X tg g)(hb:BQ X body tb)
  (hs:∀x,foldedSetIterable iter X.env x=pure x:=by intro _;rfl):PS X (.For tg iter body [] pos) (QC wi g tb):=by
 intro pins s σ H D I h;refine wpAny_For (cH (hi pins s σ H _ I h) fun v s1 h1=>cH h1 fun QB s2 h2=>?_) hs;obtain⟨it,fp,tn,J,H2,e,I2,T,dN,f2,W,⟨m0,w0⟩,turn⟩:=h2;subst e;have ZH:∀{H':Hp},(∀b∈fp,H' b=none)→∀b∈fp,iu X pins H' b:=fun hn b hb=>⟨hn b hb,(f2 b hb).2⟩
 refine codeAny_forLoop_any (fun n s'=>∃i bD H',Inv X pins bD H' s'∧tn i s'.heap∧(∀b∈fp,H' b=none)∧W i n bD H') ?_ m0 ⟨0,σ,H2,I2,dN,fun b hb=>(f2 b hb).1,w0⟩;rintro n s3 ⟨i,Dx,H3,I3,Dz,LN,w3⟩;rcases turn i n Dx H3 w3 with⟨stop,qn⟩|⟨go,N,hN,step⟩
 ·refine wpAny_passesOwn hp (cH (T.done X rfl rfl rfl hc i pins s3 Dx H3 X.xe I3 (ZH LN) Dz stop) fun r s4 ⟨hr,I4⟩=>?_);subst hr;exact wpAny_execs_nil ⟨Dx,H3,I4,qn⟩
 ·refine wpAny_passesOwn hp (cH (T.item X rfl rfl rfl hc i pins s3 Dx H3 X.xe I3 (ZH LN) Dz go) fun r s4 ⟨u,hr,h4⟩=>?_);subst hr;refine wpAny_passesOwn hp (cH h4 fun _ s5 ⟨x,H5,I5,r5,y5,LO,OU⟩=>?_);have VE:=I5.pinned (ZH OU) (T.obj _ _ LO);refine wpAny_passesOwn hp (cH (hg _ s5 Dx H5 x u _ VE r5 (step x H5 y5)) fun _ s6 ⟨VF,H6,I6,q6⟩=>?_);refine wpAny_passesOwn hp (cH (hb _ s6 VF H6 _ I6 q6) fun f s7 q7=>?_);have again:∀{DA:St}{H7:Hp},Inv X (pins++su fp s5.heap) DA H7 s7→N DA H7→∃m,m<n∧∃i bD H',Inv X pins bD H' s7∧tn i s7.heap∧(∀b∈fp,H' b=none)∧W i m bD H':=fun{DA H7} I7 n7=>by
   obtain⟨m',hm,w7⟩:=hN DA H7 n7;refine⟨m',hm,i+1,DA,H7,I7.lA,T.keep _ _ _ LO fun b hb o e=>(I7.pin (b,o) (List.mem_append_right _ (List.mem_append_right _ (gO hb e)))).1,fun b hb=>?_,w7⟩;obtain⟨o,e,d⟩:=T.obj _ _ LO b hb;exact(I7.pin (b,o) (List.mem_append_right _ (List.mem_append_right _ (gO hb e)))).2.1
  cases f with
  |next=>obtain⟨DA,H7,I7,n7⟩:=q7;exact again I7 n7
  |cont=>obtain⟨DA,H7,I7,n7⟩:=q7;exact again I7 n7
  |brk=>obtain⟨DA,H7,I7,q7⟩:=q7;exact⟨DA,H7,I7.lA,q7⟩
  |ret v=>obtain⟨x7,DA,H7,I7,r7,q7⟩:=q7;exact⟨x7,DA,H7,I7.lA,r7,q7⟩
end
theorem bU{K:PySem.W.Frag}{a:Addr}{xs:List V}{g:TG}{tb:TS}{D:Ends}{σ:St}{H:Hp}(Pv:Nat→St→Hp→Prop)(h0:Pv 0 σ H)(hl:∀i σ H,i≤xs.length→Pv i σ H→iC K H a xs)
  (hs:∀i x σ H,xs[i]?=some x→Pv i σ H→g x σ H fun fZ H2=>tb {D with nx:=Pv (i+1),ct:=Pv (i+1),bk:=D.nx} fZ H2) (hd:∀σ H,Pv xs.length σ H→D.nx σ H):
  ∃W:Nat→Nat→St→Hp→Prop,(∃m,W 0 m σ H)∧∀i m σ H,W i m σ H→
   ((LM K a).stop i H∧D.nx σ H)∨((LM K a).go i H∧∃N:St→Hp→Prop,(∀bD H',N bD H'→∃m',m'<m∧W (i+1) m' bD H')∧∀x H',(LM K a).F1 i H x H'→g x σ H' fun fZ H2=>tb {D with nx:=N,ct:=N,bk:=D.nx} fZ H2):=by
 refine⟨fun i m σ H=>m=xs.length-i∧i≤xs.length∧Pv i σ H,⟨xs.length,ZD,Nat.zero_le _,h0⟩,?_⟩;rintro i m σ H ⟨rfl,hi,p⟩;have q:=hl i σ H hi p;by_cases hZ:i<xs.length
 ·refine .inr ⟨⟨xs,xs[i],q,by simp[hZ]⟩,Pv (i+1),fun bD H' p'=>⟨xs.length-(i+1),Zz,rfl,hZ,p'⟩,fun x H' y=>?_⟩;obtain⟨e,y⟩:=y;subst e;exact hs i x σ _ (y xs q) p
 ·have e:i=xs.length:=Zz;subst e;exact .inl ⟨⟨xs,q,Nat.le_refl _⟩,hd σ H p⟩
theorem fo{lo:Int}{n:Nat}{g:TG}{tb:TS}{D:Ends}{σ:St}{H:Hp}(Pv:Nat→St→Hp→Prop)(h0:Pv 0 σ H)
  (hs:∀i σ H,i<n→Pv i σ H→g (.int (lo+i)) σ H fun fZ H2=>tb {D with nx:=Pv (i+1),ct:=Pv (i+1),bk:=D.nx} fZ H2) (hd:∀σ H,Pv n σ H→D.nx σ H):
  ∃W:Nat→Nat→St→Hp→Prop,(∃m,W 0 m σ H)∧∀i m σ H,W i m σ H→
   ((JF lo n).stop i H∧D.nx σ H)∨((JF lo n).go i H∧∃N:St→Hp→Prop,(∀bD H',N bD H'→∃m',m'<m∧W (i+1) m' bD H')∧∀x H',(JF lo n).F1 i H x H'→g x σ H' fun fZ H2=>tb {D with nx:=N,ct:=N,bk:=D.nx} fZ H2):=by
 refine⟨fun i m σ H=>m=n-i∧i≤n∧Pv i σ H,⟨n,ZD,Nat.zero_le _,h0⟩,?_⟩;rintro i m σ H ⟨rfl,hi,p⟩;by_cases hZ:i<n
 ·refine .inr ⟨hZ,Pv (i+1),fun bD H' p'=>⟨n-(i+1),Zz,rfl,hZ,p'⟩,fun x H' y=>?_⟩;obtain⟨e,y⟩:=y;subst e y;exact hs i σ _ hZ p
 ·have e:i=n:=Zz;subst e;exact .inl ⟨Nat.le_refl _,hd σ H p⟩
abbrev R2:=V→V→Hp→VK→Prop
def rH(X:Cx)(f:Value→Value→Sem Value)(r:R2):Prop:=
 ∀(pins:List (Addr×Obj))(s:Shared)(σ:St)(H:Hp)(x y:V)(v u:Value)(Q:VK),Inv X pins σ H s→RelV x v→RelV y u→r x y H Q→
  wpAny (model X.prog X.w) X.A (f v u) (EP X pins σ Q) X.xe s
def QD(X:Cx)(f:Value→Sem Value)(r:V→Hp→VK→Prop):Prop:=
 ∀(pins:List (Addr×Obj))(s:Shared)(σ:St)(H:Hp)(x:V)(v:Value)(Q:VK),Inv X pins σ H s→RelV x v→r x H Q→
  wpAny (model X.prog X.w) X.A (f v) (EP X pins σ Q) X.xe s
def iY(X:Cx)(f:Value)(r:List V→Hp→VK→Prop):Prop:=
 ∀(pins:List (Addr×Obj))(s:Shared)(σ:St)(H:Hp)(xs:List V)(us:List Value)(Q:VK),Inv X pins σ H s→Vals xs us→r xs H Q→
  wpAny (model X.prog X.w) X.A (call f us) (EP X pins σ Q) X.xe s
def OW(r:R2)(ta tb:TE):TE:=fun σ H Q=>ta σ H fun x H1=>tb σ H1 fun y H2=>r x y H2 Q
def VG(r:V→Hp→VK→Prop)(ta:TE):TE:=fun σ H Q=>ta σ H fun x H1=>r x H1 Q
inductive rI(C:Int→Int→Prop)(g:Int→Int→V)(x:V)(y:V)(H:Hp)(Q:VK):Prop
 |mk (i:_) (j:_) (_:x= .int i) (_:y= .int j) (_:C i j) (_:Q (g i j) H):rI C g x y H Q
inductive F5(g:Int→Int→V)(x:V)(y:V)(H:Hp)(Q:VK):Prop
 |mk (i:_) (j:_) (_:x= .int i) (_:y= .int j) (_:Q (g i j) H):F5 g x y H Q
inductive rU(g:Int→V)(x:V)(H:Hp)(Q:VK):Prop
 |mk (i:_) (_:x= .int i) (_:Q (g i) H):rU g x H Q
section
variable{X:Cx}{a b c:Expr}{ta tb tc:TE}{pos:Pos}
theorem JG(ha:PE X a ta)(hb:PE X b tb){pins:List (Addr×Obj)}{s:Shared}{σ:St}{H:Hp}{R:V→V→Hp→Prop}(I:Inv X pins σ H s)
  (h:ta σ H fun x H1=>tb σ H1 fun y H2=>R x y H2) {Q:Value→Shared→Prop} {f:Value→Value→Sem Value}
  (hf:∀v u s2 x y H2,Inv X pins σ H2 s2→RelV x v→RelV y u→R x y H2→wpAny (model X.prog X.w) X.A (f v u) Q X.xe s2):
  wpAny (model X.prog X.w) X.A (eval a X.env) (fun v cn=>wpAny (model X.prog X.w) X.A (eval b X.env) (fun u p_=>wpAny (model X.prog X.w) X.A (f v u) Q X.xe p_) X.xe cn) X.xe s:=by
 refine cH (ha pins s σ H _ I h) fun v s1 ⟨x,H1,I1,r1,q1⟩=>?_
 refine cH (hb pins s1 σ H1 _ I1 q1) fun u s2 ⟨y,H2,I2,r2,q2⟩=>?_
 exact hf v u s2 x y H2 I2 r1 r2 q2
theorem aH{op:Operator}{r:R2}(ho:rH X (binaryOp op) r)(ha:PE X a ta)(hb:PE X b tb):PE X (.BinOp a op b pos) (OW r ta tb):=by
 intro pins s σ H Q I h;exact wpAny_BinOp (JG ha hb I h fun v u s2 x y H2 I2 rx ry q=>ho pins s2 σ H2 x y v u Q I2 rx ry q)
theorem rf{op:UnaryOp}{r:V→Hp→VK→Prop}(ho:QD X (unaryOp op) r)(ha:PE X a ta):PE X (.UnaryOp op a pos) (VG r ta):=by
 intro pins s σ H Q I h;exact UnaryOp_ (cH (ha pins s σ H _ I h) fun v s1 ⟨x,H1,I1,r1,q1⟩=>ho pins s1 σ H1 x v Q I1 r1 q1)
theorem QE{f:Value→Value→Sem Value}{C:Int→Int→Prop}{g:Int→Int→Int}
  (rule:∀(i j:Int)(t u:Tok)(s:Shared)(Q:Value→Shared→Prop)(E:Value→Shared→Prop),C i j→Q (.int (g i j) s.toks) {s with toks:=s.toks+1}→wpAny (model X.prog X.w) X.A (f (.int i t) (.int j u)) Q E s):
  rH X f (rI C fun i j=> .int (g i j)):=by
 intro pins s σ H x y v u Q I rx ry h;obtain⟨i,j,rfl,rfl,hc,q⟩:=h;obtain⟨t,rfl⟩:=rx;obtain⟨t',rfl⟩:=ry;exact rule i j t t' s _ _ hc ⟨.int (g i j),H,I.tok _,⟨_,rfl⟩,q⟩
theorem MO{f:Value→Value→Sem Value}{g:Int→Int→Int}
  (rule:∀(i j:Int)(t u:Tok)(s:Shared)(Q:Value→Shared→Prop)(E:Value→Shared→Prop),Q (.int (g i j) s.toks) {s with toks:=s.toks+1}→wpAny (model X.prog X.w) X.A (f (.int i t) (.int j u)) Q E s):
  rH X f (F5 fun i j=> .int (g i j)):=by
 intro pins s σ H x y v u Q I rx ry h;obtain⟨i,j,rfl,rfl,q⟩:=h;obtain⟨t,rfl⟩:=rx;obtain⟨t',rfl⟩:=ry;exact rule i j t t' s _ _ ⟨.int (g i j),H,I.tok _,⟨_,rfl⟩,q⟩
theorem F6{f:Value→Value→Sem Value}{g:Int→Int→Bool}
  (rule:∀(i j:Int)(t u:Tok)(s:Shared)(Q:Value→Shared→Prop)(E:Value→Shared→Prop),Q (.bool (g i j)) s→wpAny (model X.prog X.w) X.A (f (.int i t) (.int j u)) Q E s):
  rH X f (F5 fun i j=> .bl (g i j)):=by
 intro pins s σ H x y v u Q I rx ry h;obtain⟨i,j,rfl,rfl,q⟩:=h;obtain⟨t,rfl⟩:=rx;obtain⟨t',rfl⟩:=ry;exact rule i j t t' s _ _ ⟨.bl (g i j),H,I,rfl,q⟩
def JH(i j:Int):Prop:=0<j∧j<1073741824
def JI(i j:Int):Prop:=(-(2^64)<i∧i<2^64)∨(-(2^64)<j∧j<2^64)
theorem JI.ok{i j:Int}(h:JI i j):IntMulOk i j:=by
 rcases h with⟨h1,h2⟩|⟨h1,h2⟩
 ·exact .of_left (intBits_le_64 h1 h2)
 ·exact .of_right (intBits_le_64 h1 h2)
theorem bp:rH X (binaryOp .Add) (F5 fun i j=> .int (i+j)):=MO fun _ _ _ _ _ _ _ q=>add_int q
theorem bZ:rH X (binaryOp .Sub) (F5 fun i j=> .int (i-j)):=MO fun _ _ _ _ _ _ _ q=>sub_int q
theorem m8:rH X (binaryOp .Mult) (rI JI fun i j=> .int (i*j)):=QE fun _ _ _ _ _ _ _ hc q=>mul_int q hc.ok
theorem dS:rH X (binaryOp .FloorDiv) (rI JH fun i j=> .int (i/j)):=QE fun i j _ _ _ _ _ hc q=>by
 have h1:(0:Int)<j:=hc.1;have h2:j<1073741824:=hc.2;exact floordiv_int Zw (by rw[Int.fdiv_eq_ediv_of_nonneg i Zw];exact q) (.inl (PyProof.noPylong_small Zw))
theorem bC:rH X (binaryOp .Mod) (rI (fun _ j=>0<j) fun i j=> .int (i%j)):=QE fun i j _ _ _ _ _ hc q=>by
 have h1:(0:Int)<j:=hc;exact mod_int' Zw (by rw[Int.fmod_eq_emod_of_nonneg i Zw];exact q)
theorem VH{f:Value→Sem Value}{g:Int→Int}
  (rule:∀(i:Int)(t:Tok)(s:Shared)(Q:Value→Shared→Prop)(E:Value→Shared→Prop),Q (.int (g i) s.toks) {s with toks:=s.toks+1}→wpAny (model X.prog X.w) X.A (f (.int i t)) Q E s):
  QD X f (rU fun i=> .int (g i)):=by
 intro pins s σ H x v Q I rx h;obtain⟨i,rfl,q⟩:=h;obtain⟨t,rfl⟩:=rx;exact rule i t s _ _ ⟨.int (g i),H,I.tok _,⟨_,rfl⟩,q⟩
theorem lB:QD X (unaryOp .USub) (rU fun i=> .int (-i)):=VH fun _ _ _ _ _ q=>neg_int q
end
def MP:V→V→Bool
 | .cN, .cN=>true| .cN, .int _=>true| .int _, .cN=>true| .cN, .bl _=>true| .bl _, .cN=>true| .cN, .str _=>true| .str _, .cN=>true
 | .int _, .int _=>true| .bl _, .bl _=>true| .str _, .str _=>true| .BO _, .BO _=>true
 | .int _, .str _=>true| .str _, .int _=>true| .bl _, .str _=>true| .str _, .bl _=>true
 | _,_=>false
def VI:R2:=fun x y H Q=>MP x y=true∧Q (.bl (decide (x=y))) H
def VJ:R2:=fun x y H Q=>MP x y=true∧Q (.bl (!decide (x=y))) H
theorem AU{i j:Int}:decide (V.int i=V.int j)=(i==j):=by
 rw[Bool.eq_iff_iff];simp
theorem DB{i j:Bool}:decide (V.bl i=V.bl j)=(i==j):=by
 rw[Bool.eq_iff_iff];simp
theorem AV{i j:Str}:decide (V.str i=V.str j)=(i==j):=by
 rw[Bool.eq_iff_iff];simp
theorem AW{i j:Array UInt8}:decide (V.BO i=V.BO j)=(i.toList==j.toList):=by
 rw[Bool.eq_iff_iff];cases i;cases j;simp
section
variable{X:Cx}{a b c:Expr}{ta tb tc:TE}{pos:Pos}
theorem bH{pins:List (Addr×Obj)}{σ:St}{H:Hp}{s:Shared}{Q:VK}{k k':Bool}(I:Inv X pins σ H s)(q:Q (.bl k) H)(e:k=k'):EP X pins σ Q (.bool k') s:=by
 subst e;exact⟨.bl k,H,I,rfl,q⟩
theorem jm:rH X (compareOp .Eq) VI:=by
 intro pins s σ H x y v u Q I rx ry h;obtain⟨hs,q⟩:=h;cases x with
 |cN=>
  cases rx;cases y with
  |cN=>cases ry;exact PySem.EqNone.eq_none_none (bH I q Zu)
  |bl j=>cases ry;exact PySem.EqNone.eq_none_bool (bH I q Zu)
  |int j=>obtain⟨t',rfl⟩:=ry;exact PySem.EqNone.eq_none_int (bH I q Zu)
  |str j=>obtain⟨t',rfl⟩:=ry;exact PySem.EqNone.eq_none_str (bH I q Zu)
  | _=>exact absurd (show false=true from hs) Bool.false_ne_true
 |bl i=>
  cases rx;cases y with
  |cN=>cases ry;exact PySem.EqNone.eq_bool_none (bH I q Zu)
  |bl j=>cases ry;exact eq_bool (bH I q DB)
  |str j=>obtain⟨t',rfl⟩:=ry;exact PySem.EqMixed.eq_bool_str (bH I q Zu)
  | _=>exact absurd (show false=true from hs) Bool.false_ne_true
 |int i=>
  obtain⟨t,rfl⟩:=rx;cases y with
  |cN=>cases ry;exact PySem.EqNone.eq_int_none (bH I q Zu)
  |int j=>obtain⟨t',rfl⟩:=ry;exact eq_int (bH I q AU)
  |str j=>obtain⟨t',rfl⟩:=ry;exact PySem.EqMixed.eq_int_str (bH I q Zu)
  | _=>exact absurd (show false=true from hs) Bool.false_ne_true
 |str i=>
  obtain⟨t,rfl⟩:=rx;cases y with
  |cN=>cases ry;exact PySem.EqNone.eq_str_none (bH I q Zu)
  |bl j=>cases ry;exact PySem.EqMixed.eq_str_bool (bH I q Zu)
  |int j=>obtain⟨t',rfl⟩:=ry;exact PySem.EqMixed.eq_str_int (bH I q Zu)
  |str j=>obtain⟨t',rfl⟩:=ry;exact eq_str (bH I q AV)
  | _=>exact absurd (show false=true from hs) Bool.false_ne_true
 |BO i=>
  obtain⟨t,rfl⟩:=rx;cases y with
  |BO j=>obtain⟨t',rfl⟩:=ry;exact PySem.W.eq_bytes (bH I q AW)
  | _=>exact absurd (show false=true from hs) Bool.false_ne_true
 | _=>cases y<;>exact absurd (show false=true from hs) Bool.false_ne_true
theorem u_:rH X (compareOp .NotEq) VJ:=by
 intro pins s σ H x y v u Q I rx ry h;obtain⟨hs,q⟩:=h;cases x with
 |cN=>
  cases rx;cases y with
  |cN=>cases ry;exact PySem.EqNone.ne_none_none (bH I q Zu)
  |bl j=>cases ry;exact PySem.EqNone.ne_none_bool (bH I q Zu)
  |int j=>obtain⟨t',rfl⟩:=ry;exact PySem.EqNone.ne_none_int (bH I q Zu)
  |str j=>obtain⟨t',rfl⟩:=ry;exact PySem.EqNone.ne_none_str (bH I q Zu)
  | _=>exact absurd (show false=true from hs) Bool.false_ne_true
 |bl i=>
  cases rx;cases y with
  |cN=>cases ry;exact PySem.EqNone.ne_bool_none (bH I q Zu)
  |bl j=>cases ry;exact ne_bool (bH I q (congrArg not DB))
  |str j=>obtain⟨t',rfl⟩:=ry;exact PySem.EqMixed.ne_bool_str (bH I q Zu)
  | _=>exact absurd (show false=true from hs) Bool.false_ne_true
 |int i=>
  obtain⟨t,rfl⟩:=rx;cases y with
  |cN=>cases ry;exact PySem.EqNone.ne_int_none (bH I q Zu)
  |int j=>obtain⟨t',rfl⟩:=ry;exact ne_int (bH I q (congrArg not AU))
  |str j=>obtain⟨t',rfl⟩:=ry;exact PySem.EqMixed.ne_int_str (bH I q Zu)
  | _=>exact absurd (show false=true from hs) Bool.false_ne_true
 |str i=>
  obtain⟨t,rfl⟩:=rx;cases y with
  |cN=>cases ry;exact PySem.EqNone.ne_str_none (bH I q Zu)
  |bl j=>cases ry;exact PySem.EqMixed.ne_str_bool (bH I q Zu)
  |int j=>obtain⟨t',rfl⟩:=ry;exact PySem.EqMixed.ne_str_int (bH I q Zu)
  |str j=>obtain⟨t',rfl⟩:=ry;exact ne_str (bH I q (congrArg not AV))
  | _=>exact absurd (show false=true from hs) Bool.false_ne_true
 |BO i=>
  obtain⟨t,rfl⟩:=rx;cases y with
  |BO j=>obtain⟨t',rfl⟩:=ry;exact PySem.W.ne_bytes (bH I q (congrArg not AW))
  | _=>exact absurd (show false=true from hs) Bool.false_ne_true
 | _=>cases y<;>exact absurd (show false=true from hs) Bool.false_ne_true
theorem mP:rH X (compareOp .Lt) (F5 fun i j=> .bl (decide (i<j))):=F6 fun _ _ _ _ _ _ _ q=>lt_int q
theorem AX:rH X (compareOp .LtE) (F5 fun i j=> .bl (decide (i≤j))):=F6 fun _ _ _ _ _ _ _ q=>le_int q
theorem oh:rH X (compareOp .Gt) (F5 fun i j=> .bl (decide (j<i))):=F6 fun _ _ _ _ _ _ _ q=>gt_int q
theorem ye:rH X (compareOp .GtE) (F5 fun i j=> .bl (decide (j≤i))):=F6 fun _ _ _ _ _ _ _ q=>ge_int q
theorem aV(b:Expr){op:CmpOp}(h:op≠ .In:=by decide)(h2:op≠ .NotIn:=by decide):behindInMarks op b=false:=by
 have e1:(op==CmpOp.In)=false:=by cases op<;>first|rfl|exact absurd rfl h
 have e2:(op==CmpOp.NotIn)=false:=by cases op<;>first|rfl|exact absurd rfl h2
 cases b<;>simp[behindInMarks,e1,e2]
theorem iE{op:CmpOp}{r:R2}(ho:rH X (compareOp op) r)(ha:PE X a ta)(hb:PE X b tb)(hm:behindInMarks op b=false):PE X (.Compare a [op] [b] pos) (OW r ta tb):=by
 intro pins s σ H Q I h;exact wpAny_Compare1 (JG ha hb I h fun v u s2 x y H2 I2 rx ry q=>ho pins s2 σ H2 x y v u Q I2 rx ry q) hm
def MQ(t:TE):TT:=fun σ H Q=>t σ H fun x H'=>∃k,x= .bl k∧Q k H'
theorem aS{op:CmpOp}{r:R2}(ho:rH X (compareOp op) r)(ha:PE X a ta)(hb:PE X b tb)(hm:behindInMarks op b=false):PT X (.Compare a [op] [b] pos) (MQ (OW r ta tb)):=by
 intro pins s σ H Q I h;refine wpAny_isTrue_Compare1 (cH (ha pins s σ H _ I h) fun v s1 ⟨x,H1,I1,r1,q1⟩=>cH (hb pins s1 σ H1 _ I1 q1) fun u s2 ⟨y,H2,I2,r2,q2⟩=>
  cH (ho pins s2 σ H2 x y v u _ I2 r1 r2 q2) fun c s3 ⟨z,H3,I3,r3,k,e,q3⟩=>?_) hm
 subst e;cases r3;exact wpAny_truthy_bool ⟨H3,I3,q3⟩
theorem qb:(sizeLine:Nat)<2^63:=by rw[sizeLine_eq];decide
theorem m9:rH X (binaryOp .Add) (fun x y H Q=>∃i j,x= .str i∧y= .str j∧i.length+j.length≤sizeLine∧Q (.str (i++j)) H):=by
 intro pins s σ H x y v u Q I rx ry h;obtain⟨i,j,rfl,rfl,hz,q⟩:=h;obtain⟨t,rfl⟩:=rx;obtain⟨t',rfl⟩:=ry;exact add_str (fun t' tk=>⟨.str (i++j),H,I.tok _,⟨_,rfl⟩,q⟩) hz
theorem vals1{x:V}{us:List Value}(r:Vals [x] us):∃u,us=[u]∧RelV x u:=by
 cases r with
 |cons r1 r2=>cases r2;exact⟨_,rfl,r1⟩
theorem vals2{x y:V}{us:List Value}(r:Vals [x,y] us):∃u w',us=[u,w']∧RelV x u∧RelV y w':=by
 cases r with
 |cons r1 r2=>
  cases r2 with
  |cons r3 r4=>cases r4;exact⟨_,_,rfl,r1,r3⟩
theorem BV(hc:X.calm=true):iY X (.builtin "max") (fun xs H Q=>∃i j,xs=[.int i, .int j]∧Q (.int (if j>i then j else i)) H):=by
 intro pins s σ H xs us Q I r h;obtain⟨i,j,rfl,q⟩:=h;obtain⟨u,w',rfl,⟨t,rfl⟩,⟨t',rfl⟩⟩:=vals2 r;refine max_two_ints (I.ok.hd hc) fun h' tk k=>⟨_,H,I.kept k,?_,q⟩
 by_cases hj:j>i
 ·rw[Zp hj,Zp hj];exact⟨_,rfl⟩
 ·rw[Zm hj,Zm hj];exact⟨_,rfl⟩
theorem l_(hc:X.calm=true):iY X (.builtin "min") (fun xs H Q=>∃i j,xs=[.int i, .int j]∧Q (.int (if j<i then j else i)) H):=by
 intro pins s σ H xs us Q I r h;obtain⟨i,j,rfl,q⟩:=h;obtain⟨u,w',rfl,⟨t,rfl⟩,⟨t',rfl⟩⟩:=vals2 r;refine min_two_ints (I.ok.hd hc) fun h' tk k=>⟨_,H,I.kept k,?_,q⟩
 by_cases hj:j<i
 ·rw[Zp hj,Zp hj];exact⟨_,rfl⟩
 ·rw[Zm hj,Zm hj];exact⟨_,rfl⟩
theorem qc:iY X (.type "int") (fun xs H Q=>(∃i,xs=[.int i]∧Q (.int i) H)∨∃k,xs=[.bl k]∧Q (.int (if k then 1 else 0)) H):=by
 intro pins s σ H xs us Q I r h;rcases h with⟨i,rfl,q⟩|⟨k,rfl,q⟩
 ·obtain⟨u,rfl,t,rfl⟩:=vals1 r;exact call_int_int ⟨.int i,H,I,⟨_,rfl⟩,q⟩
 ·obtain⟨u,rfl,r1⟩:=vals1 r;cases r1;exact call_int_bool ⟨.int (if k then 1 else 0),H,I.tok _,⟨_,rfl⟩,q⟩
end
structure zA(h:Heap)(x dx C:Addr)(mA:Str→Option Value):Prop where
 obj:h.get? x=some (PySem.W.instObj C dx)
 ns:h.Ns1 dx mA
 ne:dx≠x
theorem BX{h:Heap}{dx:Addr}{mA:Str→Option Value}(n:h.Ns1 dx mA):∃od,h.get? dx=some od∧∀name,PySem.W.lookIn name od=some (mA name):=by
 obtain⟨o,es,ep,ho,hd,hk,_,hm⟩:=n;refine⟨o,ho,fun name=>?_⟩;have e:=hm name;unfold nsFind findBy at e;rw[←Array.find?_toList]at e;unfold PySem.W.lookIn;rw[hd];dsimp only;split
 ·rename_i y q
  rw[q]at e;exact congrArg some e
 ·rename_i q
  rw[q]at e;have a:es.toList.any (·.refKey)=false:=by
   rw[List.any_eq_false];intro y hy;obtain⟨z,t,oj⟩:=hk y (Array.mem_toList_iff.mp hy);simp[DictEntry.refKey,oj]
  have a':¬es.toList.any (·.refKey)=true:=by rw[a];exact Bool.false_ne_true
  rw[Zm a'];exact congrArg some e
theorem zA.look{h:Heap}{x dx C:Addr}{mA:Str→Option Value}(I:zA h x dx C mA):∃od,PySem.W.InstAt h x (PySem.W.instObj C dx) C (some od)∧∀name,PySem.W.lookIn name od=some (mA name):=
 let ⟨od,ho,hl⟩:=BX I.ns
 ⟨od,⟨I.obj,rfl,rfl,ho⟩,hl⟩
section
variable{prog:Program}{w:World}{A:Around}{E:Value→Shared→Prop}{s:Shared}{K:PySem.W.Frag}{x dx C f:Addr}{mA:Str→Option Value}{name:Str}{v:Value}
theorem get_map{expr:Bool}{Q:Value→Shared→Prop}(X:K.In s.heap)(I:zA s.heap x dx C mA)(hg:PySem.W.plainGet K C name=true)(hh:PySem.W.hasDictIn K C=true)
  (ha:PySem.W.findIn K (.ref C) name=some none) (hv:mA name=some v) (MR:PySem.W.handedIn v=true) (h:Q v {s with toks:=s.toks+1}):
  wpAny (model prog w) A (getAttr (.ref x) name expr) Q E s:=by
 obtain⟨od,J,hl⟩:=I.look;exact PySem.W.get_value X J (PySem.W.plainGet_of hg).1 (PySem.W.findObj_own hh ha rfl (by rw[hl,hv])) MR h
theorem DC{pl:Sem Bool}{Q:Value×List Value→Shared→Prop}(X:K.In s.heap)(I:zA s.heap x dx C mA)(hg:PySem.W.plainGet K C name=true)
  (hf:PySem.W.findIn K (.ref C) name=some (some (.ref f))) (ht:PySem.W.isFn K (.ref f)=true) (hv:mA name=none) (h:Q (.ref f,[.ref x]) s):
  wpAny (model prog w) A (getMethod (.ref x) name pl) Q E s:=by
 obtain⟨od,J,hl⟩:=I.look;exact PySem.W.method_fn X J (PySem.W.plainGet_of hg).1 (PySem.W.plainGet_of hg).2 hf (beq_iff_eq.mp ht) (by show(PySem.W.lookIn name od).map (·.isSome)=some false;rw[hl,hv];rfl) h
theorem F8{ns:List Str}{Q:Unit→Shared→Prop}(X:K.In s.heap)(I:zA s.heap x dx C mA)
  (hs:PySem.W.findIn K (.ref C) "__setattr__"=some (some (.builtin "object.__setattr__"))) (hp:PySem.W.plainOver K C=true) (ht:PySem.W.takerIn K C name=some none) (hh:PySem.W.hasDictIn K C=true)
  (hw:PySem.Within mA ns) (hsz:ns.length≤sizeLine)
  (h:∀h',zA h' x dx C (fun y=>if y=name then some v else mA y)→Heap.SameBut dx s.heap h'→Q () {s with heap:=h',toks:=s.toks+2}):
  wpAny (model prog w) A (setAttr (.ref x) name v) Q E s:=by
 obtain⟨od,J,hl⟩:=I.look;refine PySem.W.set_plain X J hs (PySem.W.osa_open (s:={s with toks:=s.toks+1}) (r:=none) X J hp ht fun b=>?_);obtain⟨cd,hc,LK⟩:=PySem.W.any_some hh;have hx:s.heap.get? x=some ⟨.ref C,some dx, .plain,#[]⟩:=I.obj;refine wpAny_bind (wpAny_pure (wpAny_bind (wpAny_bind (wpAny_loadPart hx (wpAny_bind (PySem.W.Looks.here (s:={s with toks:=s.toks+1}) (PySem.W.looks_clsIn X hc) ?_))))));rw[LK];refine wpAny_pure (a:=some dx) (wpAny_bind (wpAny_pure (wpAny_bind ?_)));refine wpAny_nsSet1 (s:={s with toks:=s.toks+1}) I.ns fun h' xP JJ=>?_
 obtain⟨oD,Yn,Yo,VL,VM,VN⟩:=xP.count (PySem.Within.cons name v hw);refine wpAny_bind (wpAny_lookBehind VL (by rw[VM];exact pastItsLine_dict (Nat.le_trans VN (by rw[List.length_cons];omega))) ?_);exact wpAny_pure (h _ ⟨(JJ.2 _ (Ne.symm I.ne)).trans I.obj,xP,I.ne⟩ JJ)
theorem DD{R:Result→Shared→Prop}{vs:List Value}{kw:List (Str×Value)}(X:K.In s.heap)(hm:PySem.W.makesIn K C=true)
  (hi:PySem.W.findIn K (.ref C) "__init__"=some (some (.ref f))) (hf:PySem.W.typeIn K (.ref f)=some (.type "function"))
  (h:codeAny (model prog w) (A.under (.builtin "type.__call__" ⟨.ref C::vs,kw⟩)) (.call (.ref f) ⟨.ref (s.heap.objs.size+1)::vs,kw⟩) (PySem.W.InitBack (s.heap.objs.size+1) R)
   {s with heap:=(s.heap.push PySem.W.emptyDict).push (PySem.W.instObj C s.heap.objs.size)}):
  codeAny (model prog w) A (.call (.ref C) ⟨vs,kw⟩) R s:=by
 obtain⟨hh,g,d,t,os⟩:=s;exact PySem.W.make_core (PySem.W.makes_of X hm) (PySem.W.looks_findIn X hi) (fun self=>PySem.W.bind_fn X self hf) (.inl rfl) h
end
def bo(f:Str)(v:V):List (Str×V)→List (Str×V)
 |[]=>[(f,v)]
 |(g,x)::r=>if g=f then(g,v)::r else(g,x)::bo f v r
theorem rg(f g:Str)(v:V):∀fs:List (Str×V),(bo f v fs).lookup g=if g=f then some v else fs.lookup g
 |[]=>by
  show List.lookup g [(f,v)]=_;by_cases h:g=f
  ·have hb:(g==f)=true:=beq_iff_eq.mpr h;simp only[List.lookup,hb,Zp h]
  ·have hb:(g==f)=false:=beq_eq_false_iff_ne.mpr h;simp only[List.lookup,hb,Zm h]
 |(k,x)::r=>by
  have ih:=rg f g v r;rw[show bo f v ((k,x)::r)=(if k=f then(k,v)::r else(k,x)::bo f v r)from rfl];by_cases hk:k=f
  ·rw[Zp hk];by_cases h:g=k
   ·have hb:(g==k)=true:=beq_iff_eq.mpr h;simp only[List.lookup,hb,Zp (h.trans hk)]
   ·have hb:(g==k)=false:=beq_eq_false_iff_ne.mpr h;simp only[List.lookup,hb,Zm (fun e:g=f=>h (e.trans hk.symm))]
  ·rw[Zm hk];by_cases h:g=k
   ·have hb:(g==k)=true:=beq_iff_eq.mpr h;simp only[List.lookup,hb,Zm (fun e:g=f=>hk (h.symm.trans e))]
   ·have hb:(g==k)=false:=beq_eq_false_iff_ne.mpr h;simp only[List.lookup,hb];exact ih
theorem qd(f:Str)(v:V):∀fs:List (Str×V),f∈(bo f v fs).map (·.1)∧∀g,g∈fs.map (·.1)→g∈(bo f v fs).map (·.1)
 |[]=>⟨by simp[bo],fun g h=>by simp at h⟩
 |(k,x)::r=>by
  obtain⟨i1,i2⟩:=qd f v r;rw[show bo f v ((k,x)::r)=(if k=f then(k,v)::r else(k,x)::bo f v r)from rfl];by_cases hk:k=f
  ·rw[Zp hk];subst hk;exact⟨ZD,fun g h=>by simpa using h⟩
  ·rw[Zm hk];refine⟨?_,fun g h=>?_⟩
   ·rw[List.map_cons];exact List.mem_cons_of_mem _ i1
   ·rw[List.map_cons]at h⊢;rcases List.mem_cons.mp h with e|e
    ·exact List.mem_cons.mpr (.inl e)
    ·exact List.mem_cons_of_mem _ (i2 g e)
theorem aW(f:Str)(v:V):∀fs:List (Str×V),(bo f v fs).length≤fs.length+1
 |[]=>by simp[bo]
 |(k,x)::r=>by
  have ih:=aW f v r;rw[show bo f v ((k,x)::r)=(if k=f then(k,v)::r else(k,x)::bo f v r)from rfl];by_cases hk:k=f
  ·rw[Zp hk,List.length_cons,List.length_cons];omega
  ·rw[Zm hk,List.length_cons,List.length_cons];omega
theorem kq.some_of{v:V}{o:Option Value}(r:kq (some v) o):∃u,o=some u∧RelV v u:=by
 cases o with
 |none=>exact(show False from r).elim
 |some u=>exact⟨u,rfl,r⟩
theorem kq.none_of{o:Option Value}(r:kq none o):o=none:=by
 cases o with
 |none=>rfl
 |some u=>exact(show False from r).elim
theorem BY{v:V}{u:Value}(r:RelV v u):PySem.W.handedIn u=true:=by
 cases v with
 |cN=>cases(show u=Value.none from r);rfl
 |bl b=>cases(show u=Value.bool b from r);rfl
 |int i=>obtain⟨t,e⟩:=(show ∃t,u=Value.int i t from r);cases e;rfl
 |str x=>obtain⟨t,e⟩:=(show ∃t,u=Value.str x t from r);cases e;rfl
 |BO b=>obtain⟨t,e⟩:=(show ∃t,u=Value.bytes b t from r);cases e;rfl
 |HM b=>obtain⟨t,e⟩:=(show ∃t,u=Value.float b t from r);cases e;rfl
 |ref a=>cases(show u=Value.ref a from r);rfl
 |ty n=>cases(show u=Value.type n from r);rfl
section
variable{P:Program}{w:World}{H H':Hp}{h h':Heap}{a C dx:Addr}{fs VA:List (Str×V)}
theorem r_(bX:lr P w H h)(e:H a=some (.ins C dx fs)):∃mA,zA h a dx C mA∧(∀f,kq (fs.lookup f) (mA f))∧PySem.Within mA (fs.map (·.1))∧fs.length≤1000∧H dx=some (.own a):=by
 obtain⟨d,z,ne,ob,mA,n,r,q⟩:=(show cO P w H h a (.ins C dx fs)from bX a _ e)
 exact⟨mA,⟨ob,n,ne⟩,r,q,z,d⟩
end
structure vT(K:PySem.W.Frag)(C:Addr):Prop where
 pg:PySem.W.plainGet K C Str.empty=true
 hd:PySem.W.hasDictIn K C=true
 po:PySem.W.plainOver K C=true
 sa:PySem.W.findIn K (.ref C) "__setattr__"=some (some (.builtin "object.__setattr__"))
theorem vT.get{K:PySem.W.Frag}{C:Addr}(c:vT K C)(f:Str):PySem.W.plainGet K C f=true:=c.pg
def b_(K:PySem.W.Frag)(C:Addr)(f:Str):Prop:=PySem.W.findIn K (.ref C) f=some none
theorem b_.MS{K:PySem.W.Frag}{C:Addr}{f:Str}(n:b_ K C f):PySem.W.takerIn K C f=some none:=by
 unfold PySem.W.takerIn;rw[show PySem.W.findIn K (.ref C) f=some none from n];rfl
structure DE(K:PySem.W.Frag)(C:Addr)(f:Str)(v:V)(u:Value):Prop where
 at_:PySem.W.findIn K (.ref C) f=some (some u)
 rel:RelV v u
 get:PySem.W.specialIn K u "__get__"=some none
 cp:PySem.W.copiedNames.contains f=false
structure Meth(K:PySem.W.Frag)(C:Addr)(m:Str)(f:Addr):Prop where
 at_:PySem.W.findIn K (.ref C) m=some (some (.ref f))
 fn:PySem.W.isFn K (.ref f)=true
 kp:PySem.W.keepIn K (.ref f)=true
section
variable{X:Cx}{pins:List (Addr×Obj)}{σ:St}{H:Hp}{s:Shared}{a C dx:Addr}{fs:List (Str×V)}{f:Str}{v:V}{A:Around}{E:Value→Shared→Prop}
theorem zB{b:Bool}{Q:Value→Shared→Prop}(I:Inv X pins σ H s)(e:H a=some (.ins C dx fs))(c:vT X.K C)(n:b_ X.K C f)(l:fs.lookup f=some v)
  (h:∀u s',Inv X pins σ H s'→RelV v u→Q u s'):wpAny (model X.prog X.w) A (getAttr (.ref a) f b) Q E s:=by
 obtain⟨mA,O,r,_,_,_⟩:=r_ I.bX e;obtain⟨u,hu,ru⟩:=kq.some_of (v:=v) (o:=mA f) (by rw[←l];exact r f);exact get_map I.p9 O (c.get f) c.hd n hu (BY ru) (h u _ (I.tok _) ru)
theorem m_{m:Str}{g:Addr}{pl:Sem Bool}{Q:Value×List Value→Shared→Prop}(I:Inv X pins σ H s)(e:H a=some (.ins C dx fs))(c:vT X.K C)(k:Meth X.K C m g)(l:fs.lookup m=none)
  (h:Q (.ref g,[.ref a]) s):wpAny (model X.prog X.w) A (getMethod (.ref a) m pl) Q E s:=by
 obtain⟨mA,O,r,_,_,_⟩:=r_ I.bX e;have hn:mA m=none:=kq.none_of (by rw[←l];exact r m);exact DC I.p9 O (c.get m) k.at_ k.fn hn h
theorem zC{y:V}{u:Value}{Q:Unit→Shared→Prop}(I:Inv X pins σ H s)(e:H a=some (.ins C dx fs))(c:vT X.K C)(n:b_ X.K C f)(hl:fs.length<1000)(ry:RelV y u)
  (h:∀s',Inv X pins σ (upd H a (.ins C dx (bo f y fs))) s'→Q () s'):wpAny (model X.prog X.w) A (setAttr (.ref a) f u) Q E s:=by
 obtain⟨mA,O,r,wi,_,ho⟩:=r_ I.bX e;have hz:(fs.map (·.1)).length≤sizeLine:=by rw[List.length_map,sizeLine_eq];omega
 refine F8 I.p9 O c.sa c.po n.MS c.hd wi hz fun h' O' sb=>h _ ?_
 have hd:∃o,h'.get? dx=some o:=let ⟨o,_,_,e',_⟩:=O'.ns;⟨o,e'⟩
 refine I.write (x:=a) (e:=dx) (by rw[e];exact True.intro) (.inr ho) (fun b q hb z=>(sb.2 b hb).trans z) hd ?_;refine⟨by rw[ak O.ne];exact ho,?_,O.ne,O'.obj,_,O'.ns,fun g=>?_,fun g hg=>?_⟩
 ·have:=aW f y fs;omega
 ·show kq ((bo f y fs).lookup g) (if g=f then some u else mA g);rw[rg];by_cases q:g=f
  ·rw[Zp q,Zp q];exact ry
  ·rw[Zm q,Zm q];exact r g
 ·by_cases q:g=f
  ·rw[q];exact(qd f y fs).1
  ·refine(qd f y fs).2 g (wi g fun z=>hg ?_);show(if g=f then some u else mA g)=none;rw[Zm q];exact z
theorem Inv.made(I:Inv X pins σ H s):Inv X pins σ (upd (upd H s.heap.objs.size (.own (s.heap.objs.size+1))) (s.heap.objs.size+1) (.ins C s.heap.objs.size []))
  {s with heap:=(s.heap.push PySem.W.emptyDict).push (PySem.W.instObj C s.heap.objs.size)}:=by
 have e1:(s.heap.push PySem.W.emptyDict).get? s.heap.objs.size=some PySem.W.emptyDict:=Heap.get?_push_size s.heap rfl;have e2:((s.heap.push PySem.W.emptyDict).push (PySem.W.instObj C s.heap.objs.size)).get? (s.heap.objs.size+1)=some (PySem.W.instObj C s.heap.objs.size):=by
  have:=Heap.get?_push_size (s.heap.push PySem.W.emptyDict) (o:=PySem.W.instObj C s.heap.objs.size) rfl;rwa[Heap.size_push]at this
 have e3:(s.heap.push PySem.W.emptyDict).Ns s.heap.objs.size (fun _=>none):=⟨PySem.W.emptyDict,#[],_,e1,rfl,(fun e he=>absurd he Zu),fun _=>rfl⟩
 have I1:=I.laid (a:=s.heap.objs.size) (o:= .own (s.heap.objs.size+1)) (h':=s.heap.push PySem.W.emptyDict) (t':=s.toks) (fun b u q=>Zn q) (Nat.le_refl _) ⟨_,e1⟩;refine I1.laid (a:=s.heap.objs.size+1) (o:= .ins C s.heap.objs.size []) (t':=s.toks) (fun b u q=>Zn q) (Nat.le_of_eq (Heap.size_push _ _)) ?_;have ne:s.heap.objs.size≠s.heap.objs.size+1:=Nat.ne_of_lt (Nat.lt_succ_self _);refine⟨by rw[ak ne,ae],Nat.zero_le _,ne,e2,fun _=>none,(Heap.Ns1.of_empty e3).at fun o q=>Zn q,fun _=>True.intro,fun y hy=>absurd rfl hy⟩
theorem F9{prog:Program}{w:World}{env:Env}{e:Expr}{f:Str}{pos:Pos}{s:Shared}{Q:Value→Shared→Prop}(hb:attributeBase e f env (eval e env)=eval e env)
  (h:wpAny (model prog w) A (eval e env) (fun o cn=>wpAny (model prog w) A (getAttr o f true) Q E cn) E s):wpAny (model prog w) A (eval (.Attribute e f pos) env) Q E s:=
 Attribute_any_ h (by rw[arm_eval_Attribute,hb])
end
inductive HV(K:PySem.W.Frag)(f:Str)(x:V)(H1:Hp)(Q:VK):Prop
 |mk (a:Addr) (C:Addr) (dx:Addr) (fs:List (Str×V)) (v:V) (_:x= .ref a) (_:H1 a=some (.ins C dx fs)) (_:vT K C) (_:b_ K C f) (_:fs.lookup f=some v) (_:Q v H1):HV K f x H1 Q
def MT(K:PySem.W.Frag)(ta:TE)(f:Str):TE:=fun σ H Q=>ta σ H fun x H1=>HV K f x H1 Q
def MU(K:PySem.W.Frag)(ta tv:TE)(f:Str):TS:=fun D σ H=>tv σ H fun y H1=>ta σ H1 fun x H2=>∃a C dx fs,x= .ref a∧H2 a=some (.ins C dx fs)∧vT K C∧b_ K C f∧fs.length<1000∧
 D.nx σ (upd H2 a (.ins C dx (bo f y fs)))
section
variable{X:Cx}{o e value:Expr}{f:Str}{pos pos' QG:Pos}{ta tv:TE}
theorem JK(he:PE X e ta)(hb:attributeBase e f X.env (eval e X.env)=eval e X.env):PE X (.Attribute e f pos) (MT X.K ta f):=by
 intro pins s σ H Q I h;refine F9 hb (cH (he pins s σ H _ I h) fun u s1 ⟨x,H1,I1,rx,a,C,dx,fs,v,ex,ea,c,n,l,q⟩=>?_);subst ex;obtain rfl:u=Value.ref a:=rx;exact zB I1 ea c n l fun u' s2 I2 ru=>⟨v,H1,I2,ru,q⟩
theorem JL(ha:PE X o ta)(hv:PE X value tv)(hs:swapsWith value (some (.Attribute o f pos')) pos.line X.env=pure false):PS X (.Assign [.Attribute o f pos'] value pos) (MU X.K ta tv f):=by
 intro pins s σ H D I h;refine plainObj_wpAny_Assign_Attribute (cH (hv pins s σ H _ I h) fun u s1 ⟨y,H1,I1,ry,q⟩=>cH (ha pins s1 σ H1 _ I1 q) fun ov s2 ⟨x,H2,I2,rx,a,C,dx,fs,ex,ea,c,n,l,q2⟩=>?_) hs;subst ex;obtain rfl:ov=Value.ref a:=rx;exact zC I2 ea c n l ry fun s3 I3=>⟨σ,_,I3,q2⟩
theorem HW{pl:Sem Bool}{m:Str}{apos:Pos}{args:List Expr}{pins:List (Addr×Obj)}{s:Shared}{σ:St}{H:Hp}{Q:Value→Shared→Prop}{te:TE}(he:PE X e te)(I:Inv X pins σ H s)
  (h:te σ H fun x H1=>∃a C dx fs g,x= .ref a∧H1 a=some (.ins C dx fs)∧vT X.K C∧Meth X.K C m g∧fs.lookup m=none∧
   ∀s1,Inv X pins σ H1 s1→wpAny (model X.prog X.w) X.A (callWith pos (.ref g) [.ref a] (backTo pos (starEach args X.env)) (backToKw pos (keywordEach [] X.env))) Q X.xe s1)
  (ht:eval (.Call (.Attribute e m apos) args [] pos) X.env=(do
   let ov←eval e X.env
   standAt apos.atName
   let (f,first)←holding [ov] (getMethod ov m pl)
   callWith pos f first (backTo pos (starEach args X.env)) (backToKw pos (keywordEach [] X.env)))):
  wpAny (model X.prog X.w) X.A (eval (.Call (.Attribute e m apos) args [] pos) X.env) Q X.xe s:=by
 refine PySem.W.methodCall_KW (pl:=pl) (cH (he pins s σ H _ I h) fun u s1 ⟨x,H1,I1,rx,a,C,dx,fs,g,ex,ea,c,k,l,q⟩=>?_) ht;subst ex;obtain rfl:u=Value.ref a:=rx;exact m_ I1 ea c k l (q s1 I1)
end
section
variable{X:Cx}{pins:List (Addr×Obj)}{σ:St}{H:Hp}{s:Shared}{A:Around}{E:Value→Shared→Prop}{Q:Value→Shared→Prop}{c:Value}{b:Bool}
inductive qe(K:PySem.W.Frag)(H:Hp):V→Value→Prop where
 |cN:qe K H .cN (.type "NoneType")
 |bl (x:Bool):qe K H (.bl x) (.type "bool")
 |int (i:Int):qe K H (.int i) (.type "int")
 |str (x:Str):qe K H (.str x) (.type "str")
 |HM (x:UInt64):qe K H (.HM x) (.type "float")
 |lst {a:Addr} {xs:List V} (e:H a=some (.lst xs)):qe K H (.ref a) (.type "list")
 |r9 {a:Addr} {o:Obj} {xs:List V} (e:H a=some (.r9 o (.lst xs))):qe K H (.ref a) (.type "list")
 |tup {a:Addr} {xs:List V} (e:H a=some (.tup xs)):qe K H (.ref a) (.type "tuple")
 |dK {a:Addr} {kvs:List (Key×V)} (e:H a=some (.dK kvs)):qe K H (.ref a) (.type "dict")
 |dT {a:Addr} {kvs:List (List Key×V)} (e:H a=some (.dT kvs)):qe K H (.ref a) (.type "dict")
 |ins {a C dx:Addr} {fs:List (Str×V)} (e:H a=some (.ins C dx fs)) (cl:vT K C) (ha:PySem.W.findIn K (.ref C) "__class__"=some (some (.builtin "object.__class__")))
   (hn:PySem.W.specialIn K (.builtin "object.__class__") "__get__"=some (some (.builtin "getset_descriptor.__get__"))) (Tu:PySem.W.takesIn K (.builtin "object.__class__")=some true)
   (hm:PySem.W.mroIn K C (.type "object")=some true):qe K H (.ref a) (.ref C)
theorem B0{x:V}{u t:Value}(I:Inv X pins σ H s)(rx:RelV x u)(ty:qe X.K H x t)(e:PySem.W.kitOne X.K t c=some b)(h:∀tk,Q (.bool b) {s with toks:=tk}):
  wpAny (model X.prog X.w) A (call (.builtin "isinstance") [u,c]) Q E s:=by
 cases ty with
 |cN=>cases(show u=Value.none from rx);exact PySem.W.kia_one PySem.W.kitx_none I.p9 True.intro e (fun z=>nomatch z) h
 |bl y=>cases(show u=Value.bool y from rx);exact PySem.W.kia_one PySem.W.kitx_bool I.p9 True.intro e (fun z=>nomatch z) h
 |int i=>obtain⟨t,q⟩:=(show ∃t,u=Value.int i t from rx);cases q;exact PySem.W.kia_one PySem.W.kitx_int I.p9 True.intro e (fun z=>nomatch z) h
 |str y=>obtain⟨t,q⟩:=(show ∃t,u=Value.str y t from rx);cases q;exact PySem.W.kia_one PySem.W.kitx_str I.p9 True.intro e (fun z=>nomatch z) h
 |HM y=>obtain⟨t,q⟩:=(show ∃t,u=Value.float y t from rx);cases q;exact PySem.W.kia_one PySem.W.kitx_float I.p9 True.intro e (fun z=>nomatch z) h
 |@lst a xs ea=>
  cases(show u=Value.ref a from rx);obtain⟨_,_,n,_,h1⟩:=(show cO X.prog X.w H s.heap a (.lst xs)from I.bX a _ ea)
  exact PySem.W.kia_one PySem.W.kitx_list I.p9 ⟨_,h1,rfl⟩ e (fun z=>nomatch z) h
 |@r9 a ob xs ea=>
  cases(show u=Value.ref a from rx);obtain⟨_,_,_,n,_,h1⟩:=(show cO X.prog X.w H s.heap a (.r9 ob (.lst xs))from I.bX a _ ea)
  exact PySem.W.kia_one PySem.W.kitx_list I.p9 ⟨_,h1,rfl⟩ e (fun z=>nomatch z) h
 |@tup a xs ea=>
  cases(show u=Value.ref a from rx);obtain⟨_,_,_,p⟩:=(show cO X.prog X.w H s.heap a (.tup xs)from I.bX a _ ea)
  obtain⟨o,h1,h2,_⟩:=p;exact PySem.W.kia_one PySem.W.kitx_tuple I.p9 ⟨o,h1,h2⟩ e (fun z=>nomatch z) h
 |@dK a kvs ea=>
  cases(show u=Value.ref a from rx);obtain⟨_,_,vs,_,p⟩:=(show cO X.prog X.w H s.heap a (.dK kvs)from I.bX a _ ea)
  obtain⟨o,es,ep,h1,h2,_⟩:=p;exact PySem.W.kia_one PySem.W.kitx_dict I.p9 ⟨o,h1,h2.1⟩ e (fun z=>nomatch z) h
 |@dT a kvs ea=>
  cases(show u=Value.ref a from rx);obtain⟨_,_,xs,_,o,es,ep,h1,h2,_⟩:=(show cO X.prog X.w H s.heap a (.dT kvs)from I.bX a _ ea)
  exact PySem.W.kia_one PySem.W.kitx_dict I.p9 ⟨o,h1,h2.1⟩ e (fun z=>nomatch z) h
 |@ins a C dx fs ea cl ha hn Tu hm=>
  cases(show u=Value.ref a from rx);obtain⟨mA,O,_⟩:=r_ I.bX ea;obtain⟨od,J,_⟩:=O.look;exact PySem.W.kia_one (PySem.W.kitx_own (cl.get _) cl.hd ha hn Tu hm) I.p9 J e (fun z=>nomatch z) h
end
structure eQ(cm:Bool)(k:Nat)(A:Around):Prop where
 hd:cm=true→A.handled=none
 dp:A.depth+3*k+5<recursionLimit
 un:A.units+16*k+200<cLine
theorem eQ.mono{cm:Bool}{j k:Nat}{A:Around}(r:eQ cm k A)(h:j≤k):eQ cm j A:=⟨r.hd,by have:=r.dp;omega,by have:=r.un;omega⟩
theorem eQ.deeper{cm:Bool}{k:Nat}{A:Around}(r:eQ cm (k+1) A)(env:Env):eQ cm k (A.deeper env):=
 ⟨r.hd,by have:=r.dp;show A.depth+1+3*k+5<_;omega,by have:=r.un;show A.units+3+16*k+200<_;omega⟩
theorem zD{A:Around}{C:Addr}{us:List Value}{kw:List (Str×Value)}:(A.under (.builtin "type.__call__" ⟨.ref C::us,kw⟩)).depth=A.depth+1:=by
 first|rfl|simp[Around.under,Code.weight,Code.isCreation,Code.isGuard,Code.isCaller,Code.frames,Code.isFrame,guardIds]
theorem zE{A:Around}{C:Addr}{us:List Value}{kw:List (Str×Value)}:(A.under (.builtin "type.__call__" ⟨.ref C::us,kw⟩)).units=A.units+1:=by
 first|rfl|simp[Around.under,Code.cUnits,Code.frames,Code.isFrame]
theorem eQ.make{cm:Bool}{k:Nat}{A:Around}(r:eQ cm (k+1) A)(C:Addr)(us:List Value)(kw:List (Str×Value)):eQ cm k (A.under (.builtin "type.__call__" ⟨.ref C::us,kw⟩)):=
 ⟨r.hd,by have:=r.dp;rw[zD];omega,by have:=r.un;rw[zE];omega⟩
theorem eQ.depth{cm:Bool}{k:Nat}{A:Around}(r:eQ cm k A):A.depth<recursionLimit:=by have:=r.dp;omega
theorem eQ.units{cm:Bool}{k:Nat}{A:Around}(r:eQ cm k A):A.units+64<cLine:=by have:=r.un;omega
def DF:TA:=fun _ H Q=>Q [] H
def HX(ta:TE)(tr:TA):TA:=fun σ H Q=>ta σ H fun x H1=>tr σ H1 fun xs H2=>Q (x::xs) H2
section
variable{X:Cx}{e:Expr}{es:List Expr}{te:TE}{t:TA}{pos:Pos}
theorem ai:PA X [] DF:=fun _ _ _ _ H Q I h=>Calls.spliced_nil ⟨[],H,I, .nil,h⟩
theorem F_(ha:PE X e te)(hr:PA X es t)(hs:starEach (e::es) X.env=(false,eval e X.env)::starEach es X.env:=by rfl):PA X (e::es) (HX te t):=by
 intro pos pins s σ H Q I h;rw[hs];show wpAny _ _ (spliced ((false,eval e X.env)::backTo pos (starEach es X.env))) _ _ s;refine Calls.spliced_cons (cH (ha pins s σ H _ I h) fun u s1 ⟨x,H1,I1,r1,q1⟩=>?_);exact cH (hr pos pins s1 σ H1 _ I1 q1) fun us s2 ⟨xs,H2,I2,r2,q2⟩=>⟨x::xs,H2,I2, .cons r1 r2,q2⟩
def QH(t:TA):TE:=fun σ H Q=>t σ H fun xs H1=>xs.length≤sizeLine∧∀p,H1 p=none→Q (.ref p) (upd H1 p (.tup xs))
def QI(t:TA):TE:=fun σ H Q=>t σ H fun xs H1=>xs.length≤sizeLine∧∀p,H1 p=none→Q (.ref p) (upd H1 p (.lst xs))
theorem eV{x1}(h:PA X es t):PE X (.Tuple es x1 pos) (QH t):=by
 intro pins s σ H Q I hq;refine wpAny_Tuple_spliced (cH (h pos pins s σ H _ I hq) fun us s1 ⟨xs,H1,I1,r,z,q⟩=>⟨by rw[←r.length];exact z,?_⟩);have hf:H1 s1.heap.objs.size=none:=I1.bX.fresh (Nat.le_refl _);refine⟨.ref s1.heap.objs.size,upd H1 s1.heap.objs.size (.tup xs),I1.laid (t':=s1.toks) (fun b u e=>Zn e) (Nat.le_refl _) ?_,rfl,q _ hf⟩;exact⟨z,us,r,⟨_,Heap.get?_push_size _ rfl,rfl,_,rfl⟩⟩
theorem bI(h:PA X es t):PE X (.List es pos) (QI t):=by
 intro pins s σ H Q I hq;refine wpAny_List_spliced (cH (h pos pins s σ H _ I hq) fun us s1 ⟨xs,H1,I1,r,z,q⟩=>⟨by rw[←r.length];exact z,?_⟩);have hf:H1 s1.heap.objs.size=none:=I1.bX.fresh (Nat.le_refl _);refine⟨.ref s1.heap.objs.size,upd H1 s1.heap.objs.size (.lst xs),I1.laid (t':=s1.toks) (fun b u e=>Zn e) (Nat.le_refl _) ?_,rfl,q _ hf⟩;exact⟨z,us,0,r,Heap.get?_push_size _ rfl⟩
end
abbrev Sp:=List V→Hp→VK→XK→Prop
abbrev DG:=List Env→Hp→Shared→XK→Value→Shared→Prop
structure zF(P:Program)(w:World)(K:PySem.W.Frag)(mg:Str→Option Value)(base:Heap)(A:Around)(outer:List Env)(s:Shared)(H:Hp):Prop where
 frames:A.frames=some outer
 mod:Mod K mg base
 bs:∀b o,base.get? b=some o→s.heap.get? b=some o∧H b=none
 Jr:base.objs.size≤s.heap.objs.size
 um:s.heap.FunFrames base outer
 Mu:∀b∈n5 outer,H b=none
 bX:lr P w H s.heap
 bare:AllBare s.gens
def CE(outer:List Env)(P:Program)(w:World)(H:Hp)(s:Shared)(Q:VK)(u:Value)(s':Shared):Prop:=
 ∃v H',s'.os=s.os∧AllBare s'.gens∧Un (n5 outer) [] H H' s.heap s'.heap∧lr P w H' s'.heap∧RelV v u∧Q v H'
def CR(CX:DG)(outer:List Env)(P:Program)(w:World)(H:Hp)(s:Shared)(Q:VK)(E:XK)(r:Result)(s':Shared):Prop:=
 match r with
 | .ok (.ret u)=>CE outer P w H s Q u s'
 | .ok _=>False
 | .error e=>CX outer H s E e s'
structure aZ(P:Program)(w:World)(K:PySem.W.Frag)(mg:Str→Option Value)(base:Heap)(CX:DG)(cm:Bool)(k:Nat)(f:Addr)(fd:FuncData)(ps:List Str)(sp:Sp):Prop where
 len:∀vs H Q E,sp vs H Q E→vs.length=ps.length
 run:∀(A:Around)(outer:List Env)(s:Shared)(H:Hp)(args:Args)(us:List Value)(vs:List V)(Q:VK)(E:XK),eQ cm k A→zF P w K mg base A outer s H→BindsTo s fd args (ps.zip us)→Vals vs us→sp vs H Q E→
  codeAny (model P w) A (.call (.ref f) args) (CR CX outer P w H s Q E) s
theorem zF.make{P:Program}{w:World}{K:PySem.W.Frag}{mg:Str→Option Value}{base:Heap}{A:Around}{outer:List Env}{s:Shared}{H:Hp}(e:zF P w K mg base A outer s H)(C:Addr)(us:List Value)(kw:List (Str×Value)):
  zF P w K mg base (A.under (.builtin "type.__call__" ⟨.ref C::us,kw⟩)) outer s H:=⟨by first|exact e.frames|(simpa[Around.under,Code.envs,Code.isFrame,pushEnvs]using e.frames),e.mod,e.bs,e.Jr,e.um,e.Mu,e.bX,e.bare⟩
section
variable{X:Cx}{pins:List (Addr×Obj)}{σ:St}{H:Hp}{s s':Shared}
theorem Inv.JM(I:Inv X pins σ H s):zF X.prog X.w X.K X.mg X.base X.A X.stack s H:=
 ⟨I.ok.frames,I.ok.mod,I.bs,Nat.le_trans I.ok.Jr I.sz,I.stack,I.vQ,I.bX,I.bare⟩
theorem Inv.after{Q:VK}{u:Value}(I:Inv X pins σ H s)(h:CE X.stack X.prog X.w H s Q u s'):EP X pins σ Q u s':=by
 obtain⟨v,H',os,bare,un,bX,r,q⟩:=h;obtain⟨hh,g,d,t,VO⟩:=s';obtain rfl:VO=s.os:=os;exact⟨v,H',I.call (h':=hh) (g':=g) (d':=d) (t':=t) (ch:=[]) un bX bare (fun b z=>absurd z Zu),r,q⟩
end
def HY(sp:Sp)(l':List V)(E:St→XK)(t:TA):TE:=fun σ H Q=>t σ H fun vs H1=>sp (vs++l') H1 Q (E σ)
def AY(C:Addr)(m:Str)(sp:Sp)(l':List V)(E:St→XK)(ta:TE)(t:TA):TE:=fun σ H Q=>ta σ H fun x H1=>∃a dx fs,x= .ref a∧H1 a=some (.ins C dx fs)∧fs.lookup m=none∧
 t σ H1 fun vs H2=>sp (x::(vs++l')) H2 Q (E σ)
def AZ(C:Addr)(sp:Sp)(l':List V)(E:St→XK)(t:TA):TE:=fun σ H Q=>t σ H fun vs H1=>∀x dx,H1 x=none→H1 dx=none→dx≠x→
 sp (.ref x::(vs++l')) (upd (upd H1 dx (.own x)) x (.ins C dx [])) (fun v H2=>v= .cN∧Q (.ref x) H2) (E σ)
def Binds(K:PySem.W.Frag)(fd:FuncData)(ps:List Str)(ds:List Value):Prop:=
 ∀(s:Shared)(us:List Value),K.In s.heap→(us++ds).length=ps.length→BindsTo s fd ⟨us,[]⟩ (ps.zip (us++ds))
theorem Binds.all{K:PySem.W.Frag}{fd:FuncData}{ps:List Str}(h:∀us:List Value,us.length=ps.length→bindArgs fd ⟨us,[]⟩=pure (ps.zip us)):Binds K fd ps []:=fun s us _ hl=>by
 rw[List.append_nil]at hl⊢;exact .of_eq (h us hl)
def Passes(CX:DG)(X:Cx)(E:St→XK):Prop:=∀(pins:List (Addr×Obj))(σ:St)(H:Hp)(s:Shared)(e:Value)(s':Shared),Inv X pins σ H s→CX X.stack H s (E σ) e s'→X.xe e s'
section
variable{X:Cx}{CX:DG}{cm:Bool}{k:Nat}{f C:Addr}{fd:FuncData}{ps:List Str}{sp:Sp}{l':List V}{ds:List Value}{E:St→XK}{x m:Str}{p pos apos:Pos}{e o:Expr}{es:List Expr}{ta:TE}{t:TA}
theorem zG{pins:List (Addr×Obj)}{σ:St}{H:Hp}{s:Shared}{Q:VK}{us:List Value}{vs:List V}(F:aZ X.prog X.w X.K X.mg X.base CX cm k f fd ps sp)(hr:eQ cm k X.A)(hb:Binds X.K fd ps ds)(hd:Vals l' ds)(hx:Passes CX X E)
  (I:Inv X pins σ H s) (r:Vals vs us) (h:sp (vs++l') H Q (E σ)):wpAny (model X.prog X.w) X.A (call (.ref f) us) (EP X pins σ Q) X.xe s:=by
 have r2:Vals (vs++l') (us++ds):=r.append hd;have hl:(us++ds).length=ps.length:=by rw[←r2.length];exact F.len _ _ _ _ h
 refine wpAny_call (codeAny_mono (F.run X.A X.stack s H ⟨us,[]⟩ (us++ds) (vs++l') Q (E σ) hr I.JM (hb s us I.p9 hl) r2 h) fun r s' hq=>?_);cases r with
 |error e=>exact hx pins σ H s e s' I hq
 |ok fl=>
  cases fl with
  |ret u=>exact I.after hq
  |next=>exact False.elim hq
  |brk=>exact False.elim hq
  |cont=>exact False.elim hq
theorem F'(F:aZ X.prog X.w X.K X.mg X.base CX cm k f fd ps sp)(hr:eQ cm k X.A)(hg:Gl X x)(hm:X.mg x=some (.ref f))(hk:PySem.W.keepIn X.K (.ref f)=true)(hb:Binds X.K fd ps ds)(hd:Vals l' ds)(hx:Passes CX X E)
  (ha:PA X (e::es) t) (vU:(x==("__debug__":Str))=false:=by decide) (he:starEach (e::es) X.env=(false,eval e X.env)::starEach es X.env:=by rfl) (rh:(backTo pos (starEach es X.env)).any (·.1)=false:=by rfl):
  PE X (.Call (.Name x p) (e::es) [] pos) (HY sp l' E t):=by
 intro pins s σ H Q I h;refine wpAny_Call_Name_kw (n_ I hg hm ?_ vU);refine PySem.W.callWith_K (h₀:=X.base) I.ok.mod.LJ hk (cH (ha pos pins s σ H _ I h) fun us s1 ⟨vs,H1,I1,r,q⟩=>⟨I1.p9,?_⟩) he rh;exact zG F hr hb hd hx I1 r q
theorem Ga{pl:Sem Bool}(he:PE X o ta)(c:vT X.K C)(hm:Meth X.K C m f)(F:aZ X.prog X.w X.K X.mg X.base CX cm k f fd ps sp)(hr:eQ cm k X.A)(hb:Binds X.K fd ps ds)(hd:Vals l' ds)(hx:Passes CX X E)(ha:PA X (e::es) t)
  (u9:starEach (e::es) X.env=(false,eval e X.env)::starEach es X.env:=by rfl) (rh:(backTo pos (starEach es X.env)).any (·.1)=false:=by rfl)
  (ht:eval (.Call (.Attribute o m apos) (e::es) [] pos) X.env=(do
   let ov←eval o X.env
   standAt apos.atName
   let (f,first)←holding [ov] (getMethod ov m pl)
   callWith pos f first (backTo pos (starEach (e::es) X.env)) (backToKw pos (keywordEach [] X.env))):=by rfl):
  PE X (.Call (.Attribute o m apos) (e::es) [] pos) (AY C m sp l' E ta t):=by
 intro pins s σ H Q I h;refine PySem.W.methodCall_KW (pl:=pl) (cH (he pins s σ H _ I h) fun u s1 ⟨x,H1,I1,rx,a,dx,fs,ex,ea,l,q⟩=>?_) ht;subst ex;obtain rfl:u=Value.ref a:=rx;refine m_ I1 ea c hm l ?_;refine PySem.W.callWith_K (first:=[.ref a]) (h₀:=X.base) I.ok.mod.LJ hm.kp (cH (ha pos pins s1 σ H1 _ I1 q) fun us s2 ⟨vs,H2,I2,r,q2⟩=>⟨I2.p9,?_⟩) u9 rh;exact zG (us:= .ref a::us) (vs:= .ref a::vs) F hr hb hd hx I2 (.cons rfl r) q2
theorem DH{pl:Sem Bool}(he:PE X o ta)(c:vT X.K C)(hm:Meth X.K C m f)(F:aZ X.prog X.w X.K X.mg X.base CX cm k f fd ps sp)(hr:eQ cm k X.A)(hb:Binds X.K fd ps ds)(hd:Vals l' ds)(hx:Passes CX X E)
  (ht:eval (.Call (.Attribute o m apos) [] [] pos) X.env=(do
   let ov←eval o X.env
   standAt apos.atName
   let (f,first)←holding [ov] (getMethod ov m pl)
   callWith pos f first (backTo pos (starEach [] X.env)) (backToKw pos (keywordEach [] X.env))):=by rfl):
  PE X (.Call (.Attribute o m apos) [] [] pos) (AY C m sp l' E ta DF):=by
 intro pins s σ H Q I h;refine PySem.W.methodCall_KW (pl:=pl) (cH (he pins s σ H _ I h) fun u s1 ⟨x,H1,I1,rx,a,dx,fs,ex,ea,l,q⟩=>?_) ht;subst ex;obtain rfl:u=Value.ref a:=rx;refine m_ I1 ea c hm l ?_;exact PySem.W.callWith_K0 (first:=[.ref a]) I1.p9 hm.kp (zG (us:=[.ref a]) (vs:=[.ref a]) F hr hb hd hx I1 (.cons rfl .nil) q)
structure Mk(K:PySem.W.Frag)(C f:Addr):Prop where
 makes:PySem.W.makesIn K C=true
 init:PySem.W.findIn K (.ref C) "__init__"=some (some (.ref f))
 fn:PySem.W.isFn K (.ref f)=true
 kp:PySem.W.keepIn K (.ref C)=true
theorem yf{pins:List (Addr×Obj)}{σ:St}{H:Hp}{s:Shared}{Q:VK}{us:List Value}{vs:List V}(M:Mk X.K C f)(F:aZ X.prog X.w X.K X.mg X.base CX cm k f fd ps sp)(hr:eQ cm (k+1) X.A)(hb:Binds X.K fd ps ds)(hd:Vals l' ds)
  (hx:Passes CX X E) (I:Inv X pins σ H s) (r:Vals vs us)
  (h:∀x dx,H x=none→H dx=none→dx≠x→sp (.ref x::(vs++l')) (upd (upd H dx (.own x)) x (.ins C dx [])) (fun v H2=>v= .cN∧Q (.ref x) H2) (E σ)):
  wpAny (model X.prog X.w) X.A (call (.ref C) us) (EP X pins σ Q) X.xe s:=by
 have hq:=h (s.heap.objs.size+1) s.heap.objs.size (I.bX.fresh (Nat.le_succ _)) (I.bX.fresh (Nat.le_refl _)) (Nat.ne_of_lt (Nat.lt_succ_self _));have I2:=Inv.made (C:=C) I;have r2:Vals (V.ref (s.heap.objs.size+1)::(vs++l')) (Value.ref (s.heap.objs.size+1)::(us++ds)):= .cons rfl (r.append hd);have hl:(Value.ref (s.heap.objs.size+1)::us++ds).length=ps.length:=by
  have e:=r2.length;rw[F.len _ _ _ _ hq]at e;exact e.symm
 refine wpAny_call (DD (f:=f) I.p9 M.makes M.init (beq_iff_eq.mp M.fn) (codeAny_mono (F.run _ X.stack _ _ ⟨Value.ref (s.heap.objs.size+1)::us,[]⟩ (Value.ref (s.heap.objs.size+1)::(us++ds)) _ _ (E σ) (hr.make C us [])
  (I2.JM.make C us []) (hb _ (Value.ref (s.heap.objs.size+1)::us) I2.p9 hl) r2 hq) fun r s' MV=>?_))
 cases r with
 |error e=>exact hx pins σ _ _ e s' I2 MV
 |ok fl=>
  cases fl with
  |ret u=>
   obtain⟨v,H',I3,rv,ev,q3⟩:=I2.after MV;subst ev;exact⟨rv,⟨V.ref (s.heap.objs.size+1),H',I3,rfl,q3⟩⟩
  |next=>exact False.elim MV
  |brk=>exact False.elim MV
  |cont=>exact False.elim MV
theorem Gb(M:Mk X.K C f)(F:aZ X.prog X.w X.K X.mg X.base CX cm k f fd ps sp)(hr:eQ cm (k+1) X.A)(hg:Gl X x)(hm:X.mg x=some (.ref C))(hb:Binds X.K fd ps ds)(hd:Vals l' ds)(hx:Passes CX X E)
  (ha:PA X (e::es) t) (vU:(x==("__debug__":Str))=false:=by decide) (he:starEach (e::es) X.env=(false,eval e X.env)::starEach es X.env:=by rfl) (rh:(backTo pos (starEach es X.env)).any (·.1)=false:=by rfl):
  PE X (.Call (.Name x p) (e::es) [] pos) (AZ C sp l' E t):=by
 intro pins s σ H Q I h;refine wpAny_Call_Name_kw (n_ I hg hm ?_ vU);refine PySem.W.callWith_K (h₀:=X.base) I.ok.mod.LJ M.kp (cH (ha pos pins s σ H _ I h) fun us s1 ⟨vs,H1,I1,r,q⟩=>⟨I1.p9,?_⟩) he rh;exact yf M F hr hb hd hx I1 r q
theorem DI(M:Mk X.K C f)(F:aZ X.prog X.w X.K X.mg X.base CX cm k f fd ps sp)(hr:eQ cm (k+1) X.A)(hg:Gl X x)(hm:X.mg x=some (.ref C))(hb:Binds X.K fd ps ds)(hd:Vals l' ds)(hx:Passes CX X E)
  (vU:(x==("__debug__":Str))=false:=by decide):PE X (.Call (.Name x p) [] [] pos) (AZ C sp l' E DF):=by
 intro pins s σ H Q I h;refine wpAny_Call_Name_kw (n_ I hg hm ?_ vU);exact PySem.W.callWith_K0 I.p9 M.kp (yf (us:=[]) M F hr hb hd hx I .nil h)
end
section
variable{X:Cx}{CX:DG}{cm:Bool}{k:Nat}{f C:Addr}{fd:FuncData}{ps ks:List Str}{sp:Sp}{E:St→XK}{x m:Str}{p pos apos VP:Pos}{e o:Expr}{es:List Expr}{Yp:List Keyword}{te ta:TE}{t tk:TA}{nm:Option Str}
variable{g:List Value→List Value→List Value}{gV:List V→List V→List V}
end
structure aK(N P:List Str)(sc:Scope):Prop where
 kind:sc.kind= .function
 co:sc.isCoroutine=false
 gen:sc.isGenerator=false
 nd:N.Nodup
 pre:N.take P.length=P
 par:∀x∈P,sc.names.lookup x=some .local∨sc.names.lookup x=some .cell
 JN:∀y∈sc.names,y.2≠ .free
theorem va{kindOf:Str→Option NameKind}{x:Str}:∀{binds:List (Str×Value)}{m:Str→Option Value},(∀v,(x,v)∉binds)→bindL kindOf binds m x=m x
 |[],_,_=>rfl
 |(n,v)::r,m,h=>by
  unfold bindL;rw[va fun w hw=>h w (List.mem_cons_of_mem _ hw)];split
  ·have:x≠n:=by rintro rfl;exact h v List.mem_cons_self
   simp[this]
  ·rfl
theorem vc{kindOf:Str→Option NameKind}{x:Str}:∀{binds:List (Str×Value)}{m:Str→Option Value},(∀v,(x,v)∉binds)→bindC kindOf binds m x=m x
 |[],_,_=>rfl
 |(n,v)::r,m,h=>by
  unfold bindC;rw[vc fun w hw=>h w (List.mem_cons_of_mem _ hw)];split
  ·rfl
  ·have:x≠n:=by rintro rfl;exact h v List.mem_cons_self
   simp[this]
theorem ve{kindOf:Str→Option NameKind}{x:Str}{v:Value}:∀{P:List Str}{vs:List Value}{i:Nat}{m:Str→Option Value},P.Nodup→P[i]?=some x→vs[i]?=some v→kindOf x=some .local→
  bindL kindOf (P.zip vs) m x=some v
 |[],_,_,_,_,h,_,_=>by simp at h
 | _::_,[],_,_,_,_,h,_=>by simp at h
 |p::P,w::vs,0,m,nd,h1,h2,hk=>by
  simp at h1 h2;subst h1;subst h2;show bindL kindOf ((p,w)::P.zip vs) m p=_;unfold bindL;rw[va fun v hv=>(List.nodup_cons.mp nd).1 (List.of_mem_zip hv).1,Zp hk];simp
 |p::P,w::vs,i+1,m,nd,h1,h2,hk=>by
  show bindL kindOf ((p,w)::P.zip vs) m x=_;unfold bindL;exact ve (i:=i) (List.nodup_cons.mp nd).2 (by simpa using h1) (by simpa using h2) hk
theorem vf{kindOf:Str→Option NameKind}{x:Str}{v:Value}:∀{P:List Str}{vs:List Value}{i:Nat}{m:Str→Option Value},P.Nodup→P[i]?=some x→vs[i]?=some v→kindOf x≠some .local→
  bindC kindOf (P.zip vs) m x=some v
 |[],_,_,_,_,h,_,_=>by simp at h
 | _::_,[],_,_,_,_,h,_=>by simp at h
 |p::P,w::vs,0,m,nd,h1,h2,hk=>by
  simp at h1 h2;subst h1;subst h2;show bindC kindOf ((p,w)::P.zip vs) m p=_;unfold bindC;rw[vc fun v hv=>(List.nodup_cons.mp nd).1 (List.of_mem_zip hv).1,Zm hk];simp
 |p::P,w::vs,i+1,m,nd,h1,h2,hk=>by
  show bindC kindOf ((p,w)::P.zip vs) m x=_;unfold bindC;exact vf (i:=i) (List.nodup_cons.mp nd).2 (by simpa using h1) (by simpa using h2) hk
def start(N:List Str)(vs:List V):St:=vs.map some++List.replicate (N.length-vs.length) none
def zH(CX:DG)(cm:Bool)(P:Program)(w:World)(K:PySem.W.Frag)(mg:Str→Option Value)(base:Heap)(N:List Str)(qual:Str)(scope:Scope)(f:Addr)(cd:Value)(A:Around)(outer:List Env)(s:Shared)(H:Hp)(E:XK):Cx where
 prog:=P
 w:=w
 K:=K
 mg:=mg
 base:=base
 A:=A.deeper (envOfC qual scope s.heap.objs.size f cd)
 N:=N
 dz:=s
 eU:=H
 env:=envOfC qual scope s.heap.objs.size f cd
 outer:=outer
 stack:=envOfC qual scope s.heap.objs.size f cd::outer
 ex:=[]
 calm:=cm
 fn:=fun _=>true
 pn:=[]
 xe:=fun e s'=>wpAny (model P w) (A.deeper (envOfC qual scope s.heap.objs.size f cd)) (leaving (envOfC qual scope s.heap.objs.size f cd) e) (fun _ vV=>CX outer H s E e vV) (fun e' vV=>CX outer H s E e' vV) s'
theorem yg{sc:Scope}{n:Nat}{x:Str}(h:sc.names.lookup x=some .cell):∃c,(cellsFrom n sc.names []).lookup x=some c:=by
 have q:=PySem.W.cellsFrom_some sc.names n [] (.inl h);exact Option.isSome_iff_exists.mp q
theorem B1{CX:DG}{cm:Bool}{P:Program}{w:World}{K:PySem.W.Frag}{mg:Str→Option Value}{base:Heap}{N ps:List Str}{qual:Str}{scope:Scope}{f:Addr}{cd:Value}{A:Around}{outer:List Env}{s s1:Shared}{H:Hp}{E:XK}{us:List Value}{vs:List V}
  (S:aK N ps scope) (hd:cm=true→A.handled=none) (e0:zF P w K mg base A outer s H) (hl:vs.length=ps.length) (r:Vals vs us)
  (x:InCallC s s.heap.objs.size (bindL (envOfC qual scope s.heap.objs.size f cd).kindOf (ps.zip us) fun _=>none) (cellsFrom (s.heap.objs.size+1) scope.names []) (bindC (envOfC qual scope s.heap.objs.size f cd).kindOf (ps.zip us) fun _=>none) s1):
  Inv (zH CX cm P w K mg base N qual scope f cd A outer s H E) [] (start N vs) H s1:=by
 have rh:ps.length≤N.length:=by have:=congrArg List.length S.pre;rw[List.length_take]at this;omega
 obtain⟨h1,tk,rfl,hk⟩:=x.done;have MW:∀b:Addr,b∉(zH CX cm P w K mg base N qual scope f cd A outer s H E).ex:=fun b z=>absurd (show b∈([]:List Addr)from z) (ZD)
 refine⟨⟨e0.mod,S.kind,rfl,rfl,Nat.le_refl _,fun y z c h1 h2=>?_,fun y hy=>?_,fun y c _ h=>?_,fun z=>hd z,Around.frames_deeper e0.frames, .inr ⟨rfl,rfl⟩,fun b z=>absurd z (MW b),e0.bs,e0.Jr,fun b _ _=>MW b,fun b z=>absurd z (MW b),e0.um,e0.Mu⟩,
  rfl,e0.bare,Un.kept hk,⟨_,x.toInCall.ns,fun i y v h1 h2 h3=>?_⟩,fun y c h=>⟨_,x.cell y c h⟩,e0.bX.fresh (Nat.le_refl _),fun y c h=>?_,fun p hp=>absurd (show p∈([]:List (Addr×Obj))from hp) (ZD),e0.bX.kept hk,?_⟩
 ·exact name_of_addr x.apart (PySem.mem_of_lookup h1) (PySem.mem_of_lookup h2)
 ·have hy:scope.names.lookup y=some .cell∨scope.names.lookup y=some .free:=hy;rcases hy with hy|hy
  ·exact yg hy
  ·exact absurd rfl (S.JN _ (PySem.mem_of_lookup hy))
 ·exact Nat.le_of_lt (x.above y c (PySem.mem_of_lookup h))
 ·have hi:i<vs.length:=by
   unfold start at h2;by_cases hi:i<vs.length
   ·exact hi
   ·rw[List.getElem?_append_right (by simpa using hi)]at h2;rw[List.getElem?_replicate]at h2;split at h2<;>cases h2
  have ha:vs[i]?=some v:=by
   unfold start at h2;rw[List.getElem?_append_left (by simpa using hi),List.getElem?_map]at h2;cases e:vs[i]? with
   |none=>rw[e]at h2;cases h2
   |some a=>rw[e]at h2;cases h2;rfl
  obtain⟨u,hu,rv⟩:=r.get ha;have hp:ps[i]?=some y:=by
   rw[←S.pre,List.getElem?_take_of_lt Zw];exact h1
  have Tv:ps.Nodup:=by rw[←S.pre];exact S.nd.sublist (List.take_sublist _ _)
  refine⟨u,rv,?_⟩;rcases S.par y (Zk hp)with k|k
  ·exact .inl ⟨k,ve Tv hp hu k⟩
  ·obtain⟨c,e⟩:=yg (n:=s.heap.objs.size+1) k;refine .inr ⟨.inl k,c,e,?_⟩;have q:=x.cell y c e;rw[vf Tv hp hu (by show scope.names.lookup y≠_;rw[k];decide)]at q;exact q
 ·exact e0.bX.fresh (Nat.le_of_lt (x.above y c (PySem.mem_of_lookup h)))
 ·unfold start;show _=N.length;rw[List.length_append,List.length_map,List.length_replicate];omega
theorem HZ{CX:DG}{cm:Bool}{P:Program}{w:World}{K:PySem.W.Frag}{mg:Str→Option Value}{base:Heap}{k:Nat}{f:Addr}{name qual:Str}{params:Arguments}{body:List Stmt}{scope:Scope}{dV kV doc pm bR ct oc:Value}{an od:Option Addr}
  {A0:Array (Option Value)} {N ps:List Str} {sp:Sp} (lk:K.lookup f=some ⟨oc,od, .func (PySem.W.fnOf name qual params body scope dV kV doc pm an bR ct),A0⟩) (BR:PySem.W.codeIn K bR qual=true) (S:aK N ps scope)
  (len:∀vs H Q E,sp vs H Q E→vs.length=ps.length)
  (yh:∀(A:Around)(outer:List Env)(s:Shared)(H:Hp)(vs:List V)(Q:VK)(E:XK),eQ cm k (A.deeper (envOfC qual scope s.heap.objs.size f bR))→sp vs H Q E→
   ∃t,BQ (zH CX cm P w K mg base N qual scope f bR A outer s H E) body t∧t {nx:=fun _ H'=>Q .cN H',rt:=Q} (start N vs) H):
  aZ P w K mg base CX cm (k+1) f (PySem.W.fnOf name qual params body scope dV kV doc pm an bR ct) ps sp:=by
 refine⟨len,fun A outer s H args us vs Q E hr e0 hb r FJ=>?_⟩;have hl:=len _ _ _ _ FJ;have KX:K.In s.heap:=e0.mod.LJ.keeps fun b o e=>(e0.bs b o e).1
 have lim:s.heap.NoLimit:=e0.mod.nolimit.keeps fun b o e=>(e0.bs b o e).1
 have MY:∀y∈ps.zip us,scope.names.lookup y.1=some .local∨(scope.names.lookup y.1=some .cell∧((cellsFrom (s.heap.objs.size+1) scope.names []).lookup y.1).isSome=true):=fun⟨n,v⟩ hy=>by
  rcases S.par n (List.of_mem_zip hy).1 with q|q
  ·exact .inl q
  ·exact .inr ⟨q,PySem.W.cellsFrom_some _ _ _ (.inl q)⟩
 refine codeAny_call_function hr.depth (KX _ _ lk) rfl S.co S.gen rfl (PySem.W.codeRec_of KX BR) (hb _ _ _ _ ?_);refine wpAny_newFunctionEnv_cells S.kind MY fun env he s1 x=>?_
 subst he;refine⟨lim.keeps x.toInCall.keep,codeAny_func ?_⟩;obtain⟨t,ht,hq⟩:=yh A outer s H vs Q E (hr.deeper _) FJ;have I:Inv (zH CX cm P w K mg base N qual scope f bR A outer s H E) [] (start N vs) H s1:=B1 S hr.hd e0 hl r x;refine wpAny_mono (ht [] s1 (start N vs) H _ I hq) (fun fl s' hs=>?_) fun e s' hs=>hs
 have fin:∀{bD:St}{H':Hp}{v:V}{u:Value},Inv (zH CX cm P w K mg base N qual scope f bR A outer s H E) [] bD H' s'→RelV v u→Q v H'→CE outer P w H s Q u s':=
  fun{bD H' v u} J rv q=>⟨v,H',J.os,J.bare,J.base,J.bX,rv,q⟩
 cases fl with
 |ret u=>
  obtain⟨v,bD,H',J,rv,q⟩:=hs;exact fin J rv q
 |next=>
  obtain⟨bD,H',J,q⟩:=hs;exact fin (v:=V.cN) (u:=Value.none) J rfl q
 |brk=>
  obtain⟨_,_,_,q⟩:=hs;exact False.elim q
 |cont=>
  obtain⟨_,_,_,q⟩:=hs;exact False.elim q
section
variable{X:Cx}{x:Str}{p pos:Pos}{e:Expr}{es:List Expr}{t:TA}{id T:String}{r:List V→Hp→VK→Prop}
def Tw(r:List V→Hp→VK→Prop)(t:TA):TE:=fun σ H Q=>t σ H fun vs H1=>r vs H1 Q
theorem aO(hc:iY X (.builtin id) r)(hg:Gl X x)(hm:X.mg x=none)(hv:bootBuiltins x=some (.builtin id))(ha:PA X (e::es) t)(hn:x≠"__name__":=by decide)(vU:(x==("__debug__":Str))=false:=by decide)
  (he:starEach (e::es) X.env=(false,eval e X.env)::starEach es X.env:=by rfl) (rh:(backTo pos (starEach es X.env)).any (·.1)=false:=by rfl):PE X (.Call (.Name x p) (e::es) [] pos) (Tw r t):=by
 intro pins s σ H Q I h;refine wpAny_Call_Name_kw (lu I hg hm hv ?_ hn vU);exact PyProof.Rows.callWith_builtin1 (cH (ha pos pins s σ H _ I h) fun us s1 ⟨vs,H1,I1,r1,q1⟩=>hc pins s1 σ H1 vs us Q I1 r1 q1) he rh
theorem fV(hc:iY X (.type T) r)(hg:Gl X x)(hm:X.mg x=none)(hv:bootBuiltins x=some (.type T))(ha:PA X (e::es) t)(hn:x≠"__name__":=by decide)(vU:(x==("__debug__":Str))=false:=by decide)
  (he:starEach (e::es) X.env=(false,eval e X.env)::starEach es X.env:=by rfl) (rh:(backTo pos (starEach es X.env)).any (·.1)=false:=by rfl):PE X (.Call (.Name x p) (e::es) [] pos) (Tw r t):=by
 intro pins s σ H Q I h;refine wpAny_Call_Name_kw (lu I hg hm hv ?_ hn vU);exact PyProof.Rows.callWith_type1 (cH (ha pos pins s σ H _ I h) fun us s1 ⟨vs,H1,I1,r1,q1⟩=>hc pins s1 σ H1 vs us Q I1 r1 q1) he rh
end
section
variable{κ:Type}[DecidableEq κ]
def bu(kvs:List (κ×V))(k:κ):Option V:=(kvs.find? fun kv=>decide (kv.1=k)).map (·.2)
def putK(kvs:List (κ×V))(k:κ)(v:V):List (κ×V):=
 if (kvs.any fun kv=>decide (kv.1=k))=true then kvs.map (fun kv=>if kv.1=k then(kv.1,v)else kv)else kvs++[(k,v)]
def iZ(kvs:List (κ×V))(k:κ):List (κ×V):=kvs.filter fun kv=>decide (kv.1≠k)
theorem sD{k:κ}:bu ([]:List (κ×V)) k=none:=rfl
theorem cG{p:κ×V}{r:List (κ×V)}{k:κ}(e:p.1=k):bu (p::r) k=some p.2:=by simp[bu,List.find?_cons,e]
theorem cz{p:κ×V}{r:List (κ×V)}{k:κ}(e:¬p.1=k):bu (p::r) k=bu r k:=by simp[bu,List.find?_cons,e]
theorem h_(k:κ):∀kvs:List (κ×V),(kvs.any fun kv=>decide (kv.1=k))=(bu kvs k).isSome
 |[]=>rfl
 |p::r=>by
  rw[List.any_cons];by_cases e:p.1=k
  ·simp only[cG e,decide_eq_true e,Bool.true_or,Option.isSome_some]
  ·rw[cz e,decide_eq_false e,Bool.false_or];exact h_ k r
theorem yi(k j:κ)(y:V):∀kvs:List (κ×V),bu (kvs.map fun kv=>if kv.1=k then(kv.1,y)else kv) j=(bu kvs j).map fun x=>if j=k then y else x
 |[]=>rfl
 |p::r=>by
  have ih:=yi k j y r;rw[List.map_cons];by_cases h:p.1=k
  ·rw[Zp h];by_cases e:p.1=j
   ·rw[cG (p:=(p.1,y)) e,cG e,Option.map_some,Zp (e.symm.trans h)]
   ·rw[cz (p:=(p.1,y)) e,cz e,ih]
  ·rw[Zm h];by_cases e:p.1=j
   ·rw[cG (p:=p) e,cG e,Option.map_some,Zm (fun z=>h (e.trans z))]
   ·rw[cz (p:=p) e,cz e,ih]
theorem vh(k j:κ)(y:V):∀kvs:List (κ×V),bu kvs k=none→bu (kvs++[(k,y)]) j=if j=k then some y else bu kvs j
 |[],_=>by
  by_cases e:k=j
  ·rw[Zp e.symm];exact cG (p:=(k,y)) e
  ·rw[Zm (fun z=>e z.symm)];exact cz (p:=(k,y)) e
 |p::r,hn=>by
  rw[List.cons_append];have hk:¬p.1=k:=fun z=>by rw[cG z]at hn;cases hn
  rw[cz hk]at hn;have ih:=vh k j y r hn;by_cases e:p.1=j
  ·rw[cG e,cG e,Zm (fun z=>hk (e.trans z))]
  ·rw[cz e,cz e,ih]
theorem i4(kvs:List (κ×V))(k j:κ)(y:V):bu (putK kvs k y) j=if j=k then some y else bu kvs j:=by
 unfold putK;by_cases a:(kvs.any fun kv=>decide (kv.1=k))=true
 ·rw[Zp a,yi];rw[h_]at a;by_cases e:j=k
  ·obtain⟨x,hx⟩:=Option.isSome_iff_exists.mp a;rw[Zp e,e,hx,Option.map_some,if_pos rfl]
  ·rw[Zm e];cases bu kvs j with
   |none=>rfl
   |some x=>rw[Option.map_some,Zm e]
 ·rw[Zm a];refine vh k j y kvs ?_;rw[h_]at a;cases q:bu kvs k with
  |none=>rfl
  |some x=>rw[q]at a;exact(a rfl).elim
theorem eX(kvs:List (κ×V))(k:κ)(v:V):(putK kvs k v).length≤kvs.length+1:=by
 unfold putK;split
 ·rw[List.length_map];omega
 ·rw[List.length_append,List.length_cons,List.length_nil];omega
theorem sE{kvs:List (κ×V)}{k:κ}(v:V)(h:bu kvs k=none):putK kvs k v=kvs++[(k,v)]:=by
 unfold putK;rw[h_,h];exact if_neg (ZA)
theorem kq.j1{o:Option V}{u:Option Value}(r:kq o u):o.isSome=u.isSome:=by
 cases o with
 |none=>cases u with
  |none=>rfl
  |some _=>exact(show False from r).elim
 |some _=>cases u with
  |none=>exact(show False from r).elim
  |some _=>rfl
theorem kq.getD{o:Option V}{u:Option Value}{d:V}{d':Value}(r:kq o u)(rd:RelV d d'):RelV (o.getD d) (u.getD d'):=by
 cases o with
 |none=>cases u with
  |none=>exact rd
  |some _=>exact(show False from r).elim
 |some _=>cases u with
  |none=>exact(show False from r).elim
  |some _=>exact r
theorem KV.val{kvs:List (κ×V)}{vs:List (κ×Value)}(r:KV kvs vs)(k:κ):kq (bu kvs k) (valueAt vs k):=by
 unfold KV at r
 induction r with
 |nil=>exact True.intro
 |@cons p q ps qs h t ih=>
  obtain⟨h1,h2⟩:=h;by_cases e:p.1=k
  ·have e':q.1=k:=h1.symm.trans e;have b:valueAt (q::qs) k=some q.2:=by simp[valueAt,List.find?_cons,e']
   rw[cG e,b];exact h2
  ·have e':¬q.1=k:=fun z=>e (h1.trans z)
   have b:valueAt (q::qs) k=valueAt qs k:=by simp[valueAt,List.find?_cons,e']
   rw[cz e,b];exact ih
theorem KV.any{kvs:List (κ×V)}{vs:List (κ×Value)}(r:KV kvs vs)(k:κ):(kvs.any fun kv=>decide (kv.1=k))=vs.any fun kv=>decide (kv.1=k):=by
 unfold KV at r
 induction r with
 |nil=>rfl
 |cons h t ih=>rw[List.any_cons,List.any_cons,ih,h.1]
theorem KV.JO{kvs:List (κ×V)}{vs:List (κ×Value)}(r:KV kvs vs)(k:κ){y:V}{u:Value}(ry:RelV y u):
  KV (kvs.map fun kv=>if kv.1=k then(kv.1,y)else kv) (vs.map fun kv=>if kv.1=k then(kv.1,u)else kv):=by
 unfold KV at r⊢
 induction r with
 |nil=>exact .nil
 |@cons p q ps qs h t ih=>
  rw[List.map_cons,List.map_cons];refine .cons ?_ ih;obtain⟨h1,h2⟩:=h;by_cases e:p.1=k
  ·rw[Zp e,Zp (h1.symm.trans e)];exact⟨h1,ry⟩
  ·rw[Zm e,Zm (fun z=>e (h1.trans z))];exact⟨h1,h2⟩
theorem KV.put{kvs:List (κ×V)}{vs:List (κ×Value)}(r:KV kvs vs)(k:κ){y:V}{u:Value}(ry:RelV y u):KV (putK kvs k y) (stored vs k u):=by
 unfold putK stored;rw[r.any k];by_cases e:(vs.any fun kv=>decide (kv.1=k))=true
 ·rw[Zp e,Zp e];exact r.JO k ry
 ·rw[Zm e,Zm e];exact Paired.snoc r ⟨rfl,ry⟩
theorem KV.length{kvs:List (κ×V)}{vs:List (κ×Value)}(r:KV kvs vs):kvs.length=vs.length:=Paired.length r
theorem yj(kvs:List (κ×V))(k:κ):(iZ kvs k).length≤kvs.length:=List.length_filter_le _ _
end
theorem vi{P:Program}{w:World}{k:Key}{u:Value}(r:RelV (kV k) u):(cU P w).is k u=true:=by
 cases k with
 |inl i=>obtain⟨t,e⟩:=(show ∃t,u=Value.int i t from r);subst e;exact xX P w i t
 |inr x=>obtain⟨t,e⟩:=(show ∃t,u=Value.str x t from r);subst e;exact xY P w x t
theorem vj{P:Program}{w:World}:∀{ks:List Key}{us:List Value},Vals (ks.map kV) us→ItemsAre (cU P w) ks us
 |[],_,r=>by rw[List.map_nil]at r;cases r;exact .nil
 |k::ks,_,r=>by
  rw[List.map_cons]at r;cases r with
  |cons h t=>exact .cons (vi h) (vj t)
abbrev KT(H:Hp):List (List Key×V)→List (List Key×Addr×Value)→Prop:=Paired fun p q=>p.1=q.1∧H q.2.1=some (.tup (p.1.map kV))∧RelV p.2 q.2.2
theorem KT.val{H:Hp}{kvs:List (List Key×V)}{xs:List (List Key×Addr×Value)}(r:KT H kvs xs)(k:List Key):kq (bu kvs k) ((atKey xs k).map (·.2)):=by
 induction r with
 |nil=>exact True.intro
 |@cons p q ps qs h t ih=>
  obtain⟨h1,_,h2⟩:=h;by_cases e:p.1=k
  ·have e':q.1=k:=h1.symm.trans e;have b:atKey (q::qs) k=some q.2:=by simp[atKey,List.find?_cons,e']
   rw[cG e,b];exact h2
  ·have e':¬q.1=k:=fun z=>e (h1.trans z)
   have b:atKey (q::qs) k=atKey qs k:=by simp[atKey,List.find?_cons,e']
   rw[cz e,b];exact ih
theorem KT.JO{H:Hp}{kvs:List (List Key×V)}{xs:List (List Key×Addr×Value)}(r:KT H kvs xs)(k:List Key){y:V}{u:Value}(ry:RelV y u):
  KT H (kvs.map fun kv=>if kv.1=k then(kv.1,y)else kv) (xs.map (putAt k u)):=by
 induction r with
 |nil=>exact .nil
 |@cons p q ps qs h t ih=>
  rw[List.map_cons,List.map_cons];refine .cons ?_ ih;obtain⟨h1,h2,h3⟩:=h;unfold putAt;by_cases e:p.1=k
  ·rw[Zp e,Zp (h1.symm.trans e)];exact⟨h1,h2,ry⟩
  ·rw[Zm e,Zm (fun z=>e (h1.trans z))];exact⟨h1,h2,h3⟩
theorem KT.put{H:Hp}{kvs:List (List Key×V)}{xs:List (List Key×Addr×Value)}(r:KT H kvs xs)(k:List Key){b:Addr}{y:V}{u:Value}(hb:H b=some (.tup (k.map kV)))(ry:RelV y u):
  KT H (putK kvs k y) (storedH xs k b u):=by
 have e:(kvs.any fun kv=>decide (kv.1=k))=(atKey xs k).isSome:=by
  rw[h_,(r.val k).j1,Option.isSome_map]
 unfold putK storedH;rw[e];by_cases q:(atKey xs k).isSome=true
 ·rw[Zp q,Zp q];exact r.JO k ry
 ·rw[Zm q,Zm q];exact Paired.snoc r ⟨rfl,hb,ry⟩
theorem KT.keeps{H H':Hp}{kvs:List (List Key×V)}{xs:List (List Key×Addr×Value)}(r:KT H kvs xs)(ht:∀b ys,H b=some (.tup ys)→H' b=some (.tup ys)):KT H' kvs xs:=
 Paired.Jp r fun _ _ z=>⟨z.1,ht _ _ z.2.1,z.2.2⟩
section
variable{P:Program}{w:World}{H:Hp}{h:Heap}{a:Addr}
theorem H_{u:HO}(ok:lr P w H h)(e:Rd H a u):cO P w H h a u:=e.ok ok
theorem sF{kvs:List (Key×V)}(ok:lr P w H h)(e:Rd H a (.dK kvs)):kvs.length≤sizeLine∧(a==sysModules)=false∧∃vs,KV kvs vs∧h.DictOf (cU P w) a vs:=
 show cO P w H h a (.dK kvs)from H_ ok e
theorem MZ{kvs:List (Key×V)}(ok:lr P w H h)(e:H a=some (.dK kvs)):kvs.length≤sizeLine∧(a==sysModules)=false∧∃vs,KV kvs vs∧h.DictOf (cU P w) a vs:=sF ok (.inl e)
theorem nc{ks:List Key}(ok:lr P w H h)(e:H a=some (.tup (ks.map kV))):(tupleKind (cU P w)).is h ks a:=by
 obtain⟨_,its,r,o,h1,h2,n,h3⟩:=(show cO P w H h a (.tup (ks.map kV))from ok a _ e)
 exact⟨o,its.toArray,n,h1,h2,h3,by simpa using vj r⟩
theorem sG{kvs:List (List Key×V)}(ok:lr P w H h)(e:Rd H a (.dT kvs)):kvs.length≤sizeLine∧(a==sysModules)=false∧
  ∃xs,KT H kvs xs∧h.DictOfH (tupleKind (cU P w)) a xs:=by
 obtain⟨z,y,xs,r,o,es,ep,h1,h2,h3,h4,h5⟩:=(show cO P w H h a (.dT kvs)from H_ ok e)
 refine⟨z,y,xs,r,o,es,ep,h1,h2,h3,h4,fun x hx=>?_,h5⟩;have all:∀{l:List (List Key×V)}{m:List (List Key×Addr×Value)},KT H l m→∀x∈m,(tupleKind (cU P w)).is h x.1 x.2.1:=by
  intro l m q
  induction q with
  |nil=>intro x hx;exact nomatch hx
  |@cons p q ps qs hq t ih=>
   intro x hx;rcases List.mem_cons.mp hx with e|hx
   ·subst e;exact nc ok (by rw[←hq.1];exact hq.2.1)
   ·exact ih x hx
 exact all r x hx
theorem Ia{kvs:List (List Key×V)}(ok:lr P w H h)(e:H a=some (.dT kvs)):kvs.length≤sizeLine∧(a==sysModules)=false∧
  ∃xs,KT H kvs xs∧h.DictOfH (tupleKind (cU P w)) a xs:=sG ok (.inl e)
end
def j4(H:Hp)(a:Addr)(y:V)(r:Option V):Prop:=
 (∃kvs k,Rd H a (.dK kvs)∧y=kV k∧r=bu kvs k)∨∃kvs k b,Rd H a (.dT kvs)∧y= .ref b∧H b=some (.tup (k.map kV))∧r=bu kvs k
def Gd(H:Hp)(a:Addr)(y v:V)(H':Hp):Prop:=
 (∃kvs k,H a=some (.dK kvs)∧y=kV k∧kvs.length<sizeLine∧H'=upd H a (.dK (putK kvs k v)))∨
 ∃kvs k b,H a=some (.dT kvs)∧y= .ref b∧H b=some (.tup (k.map kV))∧kvs.length<sizeLine∧H'=upd H a (.dT (putK kvs k v))
theorem j4.t{H:Hp}{a b:Addr}{kvs:List (List Key×V)}{k:List Key}(e:H a=some (.dT kvs))(eb:H b=some (.tup (k.map kV))):j4 H a (.ref b) (bu kvs k):= .inr ⟨kvs,k,b, .inl e,rfl,eb,rfl⟩
theorem Gd.t{H:Hp}{a b:Addr}{kvs:List (List Key×V)}{k:List Key}{v:V}(e:H a=some (.dT kvs))(eb:H b=some (.tup (k.map kV)))(hl:kvs.length<sizeLine):
  Gd H a (.ref b) v (upd H a (.dT (putK kvs k v))):= .inr ⟨kvs,k,b,e,rfl,eb,hl,rfl⟩
section
variable{X:Cx}{pins:List (Addr×Obj)}{σ:St}{H:Hp}{s:Shared}{a:Addr}{y v:V}{u r:Value}{o:Option V}{A:Around}{E:Value→Shared→Prop}
theorem Inv.big(I:Inv X pins σ H s):sysModules<s.heap.objs.size:=by
 have h:mainGlobals<s.heap.objs.size:=(I.mod.glob.keeps I.bk).lt;exact Nat.lt_trans (ZA) h
theorem B2{Q:Value→Shared→Prop}(hu:A.units+1<cLine)(I:Inv X pins σ H s)(g:j4 H a y (some v))(ry:RelV y u)(h:∀w' s',Inv X pins σ H s'→RelV v w'→Q w' s'):
  wpAny (model X.prog X.w) A (getItem (.ref a) u) Q E s:=by
 rcases g with⟨kvs,k,e,ey,l⟩|⟨kvs,k,b,e,ey,eb,l⟩
 ·subst ey;obtain⟨z,hd,vs,rel,dd⟩:=sF I.bX e;obtain⟨w',hw,ic⟩:=kq.some_of (v:=v) (o:=valueAt vs k) (by rw[l];exact rel.val k);exact wpAny_getItem_of (vi ry) dd.mapOf hw (h w' _ (I.tok _) ic)
 ·subst ey;cases(show u=Value.ref b from ry);obtain⟨z,hd,xs,rel,dd⟩:=sG I.bX e;obtain⟨w',hw,ic⟩:=kq.some_of (v:=v) (o:=(atKey xs k).map (·.2)) (by rw[l];exact rel.val k);obtain⟨p,hp,B4⟩:=Option.map_eq_some_iff.mp hw;refine wpAny_getItem_heap (tupleKind_room_in1 hu) (nc I.bX eb) dd hp ?_;rw[B4];exact h w' _ (I.tok _) ic
theorem QJ{Q:Value→Shared→Prop}(hu:A.units+1<cLine)(I:Inv X pins σ H s)(g:j4 H a y o)(ry:RelV y u)(h:∀s',Inv X pins σ H s'→Q (.bool o.isSome) s'):
  wpAny (model X.prog X.w) A (compareOp .In u (.ref a)) Q E s:=by
 rcases g with⟨kvs,k,e,ey,l⟩|⟨kvs,k,b,e,ey,eb,l⟩
 ·subst ey;obtain⟨z,hd,vs,rel,dd⟩:=sF I.bX e;refine wpAny_in_of (vi ry) hd dd.mapOf ?_;rw[←(rel.val k).j1,←l];exact h _ (I.tok _)
 ·subst ey;cases(show u=Value.ref b from ry);obtain⟨z,hd,xs,rel,dd⟩:=sG I.bX e;refine wpAny_in_heap (tupleKind_room_in1 hu) (nc I.bX eb) hd dd ?_;have q:=(rel.val k).j1;rw[Option.isSome_map]at q;rw[←q,←l];exact h _ (I.tok _)
theorem Ge{Q:Value→Shared→Prop}(hu:A.units+1<cLine)(I:Inv X pins σ H s)(g:j4 H a y o)(ry:RelV y u)(h:∀s',Inv X pins σ H s'→Q (.bool (!o.isSome)) s'):
  wpAny (model X.prog X.w) A (compareOp .NotIn u (.ref a)) Q E s:=by
 rcases g with⟨kvs,k,e,ey,l⟩|⟨kvs,k,b,e,ey,eb,l⟩
 ·subst ey;obtain⟨z,hd,vs,rel,dd⟩:=sF I.bX e;refine wpAny_notIn_of (vi ry) hd dd.mapOf ?_;rw[←(rel.val k).j1,←l];exact h _ (I.tok _)
 ·subst ey;cases(show u=Value.ref b from ry);obtain⟨z,hd,xs,rel,dd⟩:=sG I.bX e;refine wpAny_notIn_heap (tupleKind_room_in1 hu) (nc I.bX eb) hd dd ?_;have q:=(rel.val k).j1;rw[Option.isSome_map]at q;rw[←q,←l];exact h _ (I.tok _)
theorem vW{h':Heap}{t':Nat}{ob:HO}(I:Inv X pins σ H s)(mu:Mr (H a))(hs:Heap.SameBut a s.heap h')(he:∃q,h'.get? a=some q)(new:cO X.prog X.w (upd H a ob) h' a ob):
  Inv X pins σ (upd H a ob) {s with heap:=h',toks:=t'}:=
 I.write (x:=a) (e:=a) mu (.inl rfl) (fun b q hb z=>(hs.2 b hb).trans z) he new
theorem JP{P:Program}{w:World}{H':Hp}{h':Heap}{kvs:List (Key×V)}{vs:List (Key×Value)}(z:kvs.length≤sizeLine)(hd:(a==sysModules)=false)(rel:KV kvs vs)(dd:h'.DictOf (cU P w) a vs):
  cO P w H' h' a (.dK kvs):=⟨z,hd,vs,rel,dd⟩
theorem B5{H':Hp}{Q:Unit→Shared→Prop}(hu:A.units+1<cLine)(I:Inv X pins σ H s)(g:Gd H a y v H')(ry:RelV y u)(rv:RelV v r)(h:∀s',Inv X pins σ H' s'→Q () s'):
  wpAny (model X.prog X.w) A (setItem (.ref a) u r) Q E s:=by
 rcases g with⟨kvs,k,e,ey,l,eH⟩|⟨kvs,k,b,e,ey,eb,l,eH⟩
 ·subst ey eH;obtain⟨z,hd,vs,rel,dd⟩:=MZ I.bX e;have hz:vs.length≤sizeLine:=by rw[←rel.length];exact z
  have hl:(putK kvs k v).length≤sizeLine:=by have:=eX kvs k v;omega
  refine wpAny_setItem_pairs (hsz:=hz) (vi ry) dd fun h' Ib hs=>h _ ?_
  have he:∃q,h'.get? a=some q:=let ⟨q,_,_,hq,_⟩:=Ib;⟨q,hq⟩
  exact vW I (by rw[e];exact True.intro) hs he (JP hl hd (rel.put k rv) Ib)
 ·subst ey eH;cases(show u=Value.ref b from ry);obtain⟨z,hd,xs,rel,dd⟩:=Ia I.bX e;have hz:xs.length≤sizeLine:=by rw[←Paired.length rel];exact z
  have hl:(putK kvs k v).length≤sizeLine:=by have:=eX kvs k v;omega
  refine wpAny_setItem_heap (hsz:=hz) (tupleKind_room_in1 hu) (nc I.bX eb) dd fun h' Ib hs=>h _ ?_
  obtain⟨q,es,ep,hq,h2,h3,h4,_,h5⟩:=Ib;refine vW I (by rw[e];exact True.intro) hs ⟨q,hq⟩ ⟨hl,hd,_,(rel.put k eb rv).keeps fun c ys ec=>?_,q,es,ep,hq,h2,h3,h4,h5⟩;rw[ak (iX ec e (fun z=>nomatch z))];exact ec
end
section
variable{X:Cx}{pins:List (Addr×Obj)}{σ:St}{H:Hp}{s:Shared}{a:Addr}{kvs:List (Key×V)}{k:Key}{u:Value}{A:Around}{E:Value→Shared→Prop}
end
def M0(i:Expr):Prop:=∀ov iv,subscripted i false ov iv=operate [ov,iv] (getItem ov iv)
theorem Gf{prog:Program}{w:World}{A:Around}{E:Value→Shared→Prop}{s:Shared}{env:Env}{value slice:Expr}{pos:Pos}{T id:String}{Q:Value→Shared→Prop}
  (hl:typeLookup (.type T) "__getitem__"=pure (some (.builtin id))) (hs:M0 slice)
  (h:wpAny (model prog w) A (eval value env) (fun o cn=>wpAny (model prog w) A (eval slice env) (fun i p_=>p_.TypeIs o T∧wpAny (model prog w) A (getItem o i) Q E p_) E cn) E s):
  wpAny (model prog w) A (eval (.Subscript value slice pos) env) Q E s:=by
 refine Subscript_ (wpAny_mono h (fun o cn B6=>wpAny_mono B6 (fun i p_ DJ=>?_) fun _ _ x=>x) fun _ _ x=>x);obtain⟨hT,DJ⟩:=DJ;unfold subscriptTail;refine wpAny_bind ?_;rw[getitemInPython_of_ne hT.not_modules];refine wpAny_bind (wpAny_specialOf hT hl ?_);have fin:wpAny (model prog w) A (subscripted slice false o i) (fun r B7=>wpAny (model prog w) A (letTemporaryGo value o r>>=fun _=>pure r) Q E B7) E p_:=by
  rw[hs o i];exact wpAny_operating (wpAny_mono DJ (fun r B7 Gg=>wpAny_bind (wpAny_letTemporaryGo (wpAny_pure Gg))) fun _ _ x=>x)
 first
  |exact wpAny_pure (wpAny_bind fin)
  |exact wpAny_bind (wpAny_pure (wpAny_bind fin))
  |exact wpAny_bind fin
theorem yk{X:Cx}{pins:List (Addr×Obj)}{σ:St}{H:Hp}{s:Shared}{a:Addr}{y:V}{o:Option V}(I:Inv X pins σ H s)(g:j4 H a y o):s.TypeIs (.ref a) "dict":=by
 rcases g with⟨kvs,k,e,_,_⟩|⟨kvs,k,b,e,_,_,_⟩
 ·obtain⟨_,_,vs,_,dd⟩:=sF I.bX e;exact dd.typeIs
 ·obtain⟨_,_,xs,_,dd⟩:=sG I.bX e;exact dd.typeIs
def M4(td ty:TE):TE:=fun σ H Q=>td σ H fun x H1=>ty σ H1 fun y H2=>∃a v,x= .ref a∧j4 H2 a y (some v)∧Q v H2
def QK(ty td:TE):TE:=fun σ H Q=>ty σ H fun y H1=>td σ H1 fun x H2=>∃a o,x= .ref a∧j4 H2 a y o∧Q (.bl o.isSome) H2
def Gh(ty td:TE):TE:=fun σ H Q=>ty σ H fun y H1=>td σ H1 fun x H2=>∃a o,x= .ref a∧j4 H2 a y o∧Q (.bl (!o.isSome)) H2
def M5(td ty tv:TE):TS:=fun D σ H=>tv σ H fun v H1=>td σ H1 fun x H2=>ty σ H2 fun y H3=>∃a H4,x= .ref a∧Gd H3 a y v H4∧D.nx σ H4
section
variable{X:Cx}{o i e value:Expr}{pos pos' QG:Pos}{td ty tv:TE}
theorem iF(hu:X.A.units+1<cLine)(ho:PE X o td)(hi:PE X i ty)(hs:M0 i):PE X (.Subscript o i pos) (M4 td ty):=by
 intro pins s σ H Q I h;refine Gf PySem.F.slot_dict_getitem.lookup hs (cH (ho pins s σ H _ I h) fun u s1 ⟨x,H1,I1,rx,q1⟩=>cH (hi pins s1 σ H1 _ I1 q1) fun iv s2 ⟨y,H2,I2,ry,a,v,ex,g,q2⟩=>?_);subst ex;obtain rfl:u=Value.ref a:=rx;exact⟨yk I2 g,B2 hu I2 g ry fun w' s3 I3 ic=>⟨v,H2,I3,ic,q2⟩⟩
theorem qf(hu:X.A.units+1<cLine)(hi:PE X i ty)(ho:PE X o td):PC X .In i o (QK ty td):=by
 intro pins s σ H Q I h;refine cH (hi pins s σ H _ I h) fun iv s1 ⟨y,H1,I1,ry,q1⟩=>cH (ho pins s1 σ H1 _ I1 q1) fun u s2 ⟨x,H2,I2,rx,a,ov,ex,g,q2⟩=>?_
 subst ex;obtain rfl:u=Value.ref a:=rx;exact QJ hu I2 g ry fun s3 I3=>⟨.bl ov.isSome,H2,I3,rfl,q2⟩
theorem vk(hu:X.A.units+1<cLine)(hi:PE X i ty)(ho:PE X o td):PC X .NotIn i o (Gh ty td):=by
 intro pins s σ H Q I h;refine cH (hi pins s σ H _ I h) fun iv s1 ⟨y,H1,I1,ry,q1⟩=>cH (ho pins s1 σ H1 _ I1 q1) fun u s2 ⟨x,H2,I2,rx,a,ov,ex,g,q2⟩=>?_
 subst ex;obtain rfl:u=Value.ref a:=rx;exact Ge hu I2 g ry fun s3 I3=>⟨.bl (!ov.isSome),H2,I3,rfl,q2⟩
theorem kr(hu:X.A.units+1<cLine)(ho:PE X o td)(hi:PE X i ty)(hv:PE X value tv)(hs:swapsWith value (some (.Subscript o i pos')) pos.line X.env=pure false):
  PS X (.Assign [.Subscript o i pos'] value pos) (M5 td ty tv):=by
 intro pins s σ H D I h;refine wpAny_Assign_Subscript (cH (hv pins s σ H _ I h) fun r s1 ⟨v,H1,I1,rv,q1⟩=>cH (ho pins s1 σ H1 _ I1 q1) fun u s2 ⟨x,H2,I2,rx,q2⟩=>cH (hi pins s2 σ H2 _ I2 q2) fun iv s3 ⟨y,H3,I3,ry,a,H4,ex,g,q3⟩=>?_) hs;subst ex;obtain rfl:u=Value.ref a:=rx;exact B5 hu I3 g ry rv fun s4 I4=>⟨σ,H4,I4,q3⟩
end
theorem DK{P:Program}{w:World}{H:Hp}(h:Heap)(hb:sysModules<h.objs.size):cO P w H (h.push {cls:= .type "dict",data:= .dict #[]}) h.objs.size (.dT []):=
 ⟨Nat.zero_le _,beq_eq_false_iff_ne.mpr (Ne.symm (Nat.ne_of_lt hb)),[], .nil,_,#[],0,Heap.get?_push_size _ rfl,⟨rfl,rfl,rfl⟩,rfl,rfl,List.nodup_nil⟩
def JQ:TE:=fun _ H Q=>∀p,H p=none→Q (.ref p) (upd H p (.dT []))
section
variable{X:Cx}{pos:Pos}
theorem j5:PE X (.Dict [] [] pos) JQ:=fun pins s σ H Q I h=>
 wpAny_Dict_empty ⟨.ref s.heap.objs.size,_,I.laid (a:=s.heap.objs.size) (o:= .dT []) (t':=s.toks) (fun _ _ q=>Zn q) (Nat.le_refl _) (DK s.heap I.big),rfl,h _ (I.bX.fresh (Nat.le_refl _))⟩
end
structure M1(X:Cx)(o:Expr)(m:Str)(apos:Pos)(e:Expr)(eD:Pos):Prop where
 base:attributeBase o m X.env (eval o X.env)=eval o X.env
 sI:((backTo eD (starEach [e] X.env)).all (fun x=>!x.1)&&(backToKw eD (keywordEach [] X.env)).all (fun x=>x.1.isSome)
  &&decide (([e]:List Expr).length+([]:List Keyword).length+(if ([]:List Keyword).isEmpty then 0 else 1)<30))=true
 line:(apos.endLine==eD.line)=true
 trees:backTo eD (starEach [e] X.env)=[(false,eval e X.env)]
def QL(H:Hp)(a:Addr):Prop:=(∃kvs,Rd H a (.dK kvs))∨∃kvs,Rd H a (.dT kvs)
theorem DL{X:Cx}{pins:List (Addr×Obj)}{σ:St}{H:Hp}{s:Shared}{a:Addr}(I:Inv X pins σ H s)(d:QL H a):
  s.TypeIs (.ref a) "dict"∧(∀b,Value.ref a= .ref b→∃ob,s.heap.get? b=some ob∧ob.dict=none)∧(a==sysModules)=false:=by
 rcases d with⟨kvs,e⟩|⟨kvs,e⟩
 ·obtain⟨_,hd,vs,_,dd⟩:=sF I.bX e;refine⟨dd.typeIs,fun b q=>?_,hd⟩;cases q;obtain⟨ob,_,_,h1,h2,_⟩:=dd;exact⟨ob,h1,h2.2.1⟩
 ·obtain⟨_,hd,xs,_,dd⟩:=sG I.bX e;refine⟨dd.typeIs,fun b q=>?_,hd⟩;cases q;obtain⟨ob,_,_,h1,h2,_⟩:=dd;exact⟨ob,h1,h2.2.1⟩
section
variable{X:Cx}{pins:List (Addr×Obj)}{σ:St}{H:Hp}{s:Shared}{a:Addr}{y d:V}{u r:Value}{o:Option V}{A:Around}{E:Value→Shared→Prop}
theorem JR{Q:Value→Shared→Prop}(hu:A.units+1<cLine)(I:Inv X pins σ H s)(g:j4 H a y o)(ry:RelV y u)(h:∀w' s',Inv X pins σ H s'→RelV (o.getD .cN) w'→Q w' s'):
  wpAny (model X.prog X.w) A (call (.builtin "dict.get") [.ref a,u]) Q E s:=by
 rcases g with⟨kvs,k,e,ey,l⟩|⟨kvs,k,b,e,ey,eb,l⟩
 ·subst ey;obtain⟨z,hd,vs,rel,dd⟩:=sF I.bX e;refine call_meetsIn PySem.F.slot_dict_get dd.typeIs PySem.F.entry_dict_get (PySem.F.args_dict_get_2 _ _) (meets_dict_get (cU X.prog X.w) a (vi ry) hd) ⟨_,dd.mapOf,h _ _ (I.tok _) ?_⟩;rw[l];exact(rel.val k).getD rfl
 ·subst ey;cases(show u=Value.ref b from ry);obtain⟨z,hd,xs,rel,dd⟩:=sG I.bX e;refine call_meetsIn PySem.F.slot_dict_get dd.typeIs PySem.F.entry_dict_get (PySem.F.args_dict_get_2 _ _) (meetsH_dict_get (tupleKind (cU X.prog X.w)) a b hd) ⟨tupleKind_room_in1 hu,k,xs,nc I.bX eb,dd,h _ _ (I.tok _) ?_⟩;rw[l];exact(rel.val k).getD rfl
end
def JS(td ty:TE):TE:=fun σ H Q=>td σ H fun x H1=>∃a,x= .ref a∧QL H1 a∧ty σ H1 fun y H2=>∃o,j4 H2 a y o∧Q (o.getD .cN) H2
section
variable{X:Cx}{o e f:Expr}{apos eD:Pos}{td ty tx:TE}
theorem DM(hu:X.A.units+1<cLine)(ho:PE X o td)(he:PE X e ty)(m:M1 X o "get" apos e eD):PE X (.Call (.Attribute o "get" apos) [e] [] eD) (JS td ty):=by
 intro pins s σ H Q I h;refine wpAny_Call_method m.base m.sI m.line PySem.F.plainAttrs_dict PySem.F.slot_dict_get PySem.F.type_dict_get (cH (ho pins s σ H _ I h) fun u s1 ⟨x,H1,I1,rx,a,ex,d,q1⟩=>?_);subst ex;obtain rfl:u=Value.ref a:=rx;obtain⟨t1,t2,_⟩:=DL I1 d;refine⟨t1,t2,?_⟩;rw[m.trees];refine Calls.callWith_builtin rfl (Calls.evalArgs_plain (Calls.spliced_cons (cH (he pins s1 σ H1 _ I1 q1) fun iv s2 ⟨y,H2,I2,ry,ov,g,q2⟩=>Calls.spliced_nil ?_)));exact JR hu I2 g ry fun w' s3 I3 ic=>⟨_,H2,I3,ic,q2⟩
end
section
variable{X:Cx}{pins:List (Addr×Obj)}{σ:St}{H:Hp}{s:Shared}{a:Addr}{kvs:List (Key×V)}{A:Around}{E:Value→Shared→Prop}
end
section
variable{X:Cx}{pins:List (Addr×Obj)}{σ:St}{H:Hp}{s:Shared}{a:Addr}{y:V}{u:Value}{A:Around}{E:Value→Shared→Prop}
end
end L2
namespace HT
open PySem PyProof.Rows
section
open PySem.SeqAt
open PySem.AutoSeq1 (wpAny_loadPart')
open PySem.MeetsSeq PySem.MeetsSeq2 PySem.MeetsSeq3
end
section
variable{prog:Program}{w:World}{A:Around}{E:Value→Shared→Prop}{s:Shared}
def ku(n d:Nat):Option Int→Nat
 |none=>d
 |some v=>if v<0 then(v+(n:Int)).toNat else min v.toNat n
theorem DO(n d:Nat):ku n d none=d:=rfl
theorem DP(n d:Nat)(hd:d≤n)(o:Option Int):ku n d o≤n:=by
 cases o with
 |none=>exact hd
 |some v=>
  show(if v<0 then(v+(n:Int)).toNat else min v.toNat n)≤n;by_cases hv:v<0
  ·rw[Zp hv];omega
  ·rw[Zm hv];exact Nat.min_le_right _ _
end
end HT
namespace L2
open PySem PySem.Spec PyProof.Rows
abbrev TO:=St→Hp→(Option Int→Hp→Prop)→Prop
def PO(X:Cx)(e:Option Expr)(t:TO):Prop:=
 ∀(pins:List (Addr×Obj))(s:Shared)(σ:St)(H:Hp)(Q:Option Int→Hp→Prop),Inv X pins σ H s→t σ H Q→
  wpAny (model X.prog X.w) X.A (evalPart e X.env) (fun u s'=>∃o H',Inv X pins σ H' s'∧IsPart u o∧Q o H') X.xe s
def Gi:TO:=fun _ H Q=>Q none H
def M6(t:TE):TO:=fun σ H Q=>t σ H fun x H1=>∃i,x= .int i∧Q (some i) H1
section
variable{X:Cx}{e:Expr}{te:TE}{lo hi:Option Expr}{tl th:TO}{pos p2:Pos}
theorem vX:PO X none Gi:=by
 intro pins s σ H Q I h;rw[evalPart_none];exact wpAny_pure ⟨none,H,I, .none,h⟩
theorem om(h:PE X e te):PO X (some e) (M6 te):=by
 intro pins s σ H Q I hw;rw[evalPart_some];refine cH (h pins s σ H _ I hw) fun u s1 ⟨x,H1,I1,r1,q1⟩=>?_
 obtain⟨i,rfl,q⟩:=q1;obtain⟨t,rfl⟩:=r1;exact⟨some i,H1,I1, .int i t,q⟩
def OX(X:Cx)(r:V→Option Int→Option Int→Hp→VK→Prop):Prop:=
 ∀(pins:List (Addr×Obj))(s:Shared)(σ:St)(H:Hp)(x:V)(v vl vu:Value)(lo hi:Option Int)(sl:Addr)(Q:VK),Inv X pins σ H s→RelV x v→s.heap.IsSliceOf sl vl vu .none→IsPart vl lo→IsPart vu hi→r x lo hi H Q→
  ∃T id,typeLookup (.type T) "__getitem__"=pure (some (.builtin id))∧s.TypeIs v T∧wpAny (model X.prog X.w) X.A (getItem v (.ref sl)) (EP X pins σ Q) X.xe s
def VQ(r:V→Option Int→Option Int→Hp→VK→Prop)(te:TE)(tl th:TO):TE:=fun σ H Q=>te σ H fun x H1=>tl σ H1 fun l H2=>th σ H2 fun u H3=>r x l u H3 Q
theorem ot{r:V→Option Int→Option Int→Hp→VK→Prop}(hr:OX X r)(he:PE X e te)(hl:PO X lo tl)(hu:PO X hi th):PE X (.Subscript e (.Slice lo hi none p2) pos) (VQ r te tl th):=by
 intro pins s σ H Q I h;refine Subscript_ (cH (he pins s σ H _ I h) fun v s1 ⟨x,H1,I1,r1,q1⟩=>?_);refine wpAny_Slice (cH (hl pins s1 σ H1 _ I1 q1) fun vl s2 ⟨l,H2,I2,pl,q2⟩=>cH (hu pins s2 σ H2 _ I2 q2) fun vu s3 ⟨u,H3,I3,pu,q3⟩=>?_);rw[evalPart_none];refine wpAny_pure ?_;have I4:Inv X pins σ H3 {s3 with heap:=s3.heap.push {cls:= .type "slice",data:= .fields #[vl,vu, .none]}}:=I3.kept (t':=s3.toks) fun b ob q=>Zn q
 obtain⟨T,id,hT,ht,hg⟩:=hr pins {s3 with heap:=s3.heap.push {cls:= .type "slice",data:= .fields #[vl,vu, .none]}} σ H3 x v vl vu l u s3.heap.objs.size Q I4 r1 (Heap.IsSliceOf.new ..) pl pu q3;show wpAny (model X.prog X.w) X.A (subscriptTail e (.Slice lo hi none p2) v (.ref s3.heap.objs.size)) (EP X pins σ Q) X.xe {s3 with heap:=s3.heap.push {cls:= .type "slice",data:= .fields #[vl,vu, .none]}};exact tail_any (ops:=[.ref s3.heap.objs.size,v]) ht hT hg (by with_unfolding_all rfl)
def B8(xs:List V)(lo hi:Option Int):List V:=(xs.drop (HT.ku xs.length 0 lo)).take (HT.ku xs.length xs.length hi-HT.ku xs.length 0 lo)
theorem yl(xs:List V)(lo hi:Option Int):(B8 xs lo hi).length≤xs.length:=by
 unfold B8;rw[List.length_take,List.length_drop];omega
end
def DQ(n:Nat)(i:Int):Option Nat:=if 0≤i then(if i<n then some i.toNat else none)else if-(n:Int)≤i then some (i+n).toNat else none
def rj{α:Type}(xs:List α)(i:Int):Option α:=(DQ xs.length i).bind fun j=>xs[j]?
theorem A3{n:Nat}{i:Int}{j:Nat}(h:DQ n i=some j):seqIndex? i n=some j∧j<n∧-(n:Int)≤i∧i<n:=by
 unfold DQ at h;by_cases h0:0≤i
 ·rw[Zp h0]at h;by_cases h1:i<n
  ·rw[Zp h1]at h;have e:i.toNat=j:=Zt h;exact⟨by rw[seqIndex_of h0 h1,e],Zz,Zz,h1⟩
  ·rw[Zm h1]at h;cases h
 ·rw[Zm h0]at h;by_cases h1:-(n:Int)≤i
  ·rw[Zp h1]at h;have e:(i+n).toNat=j:=Zt h;exact⟨by rw[seqIndex_neg Zw h1,e],Zz,h1,Zz⟩
  ·rw[Zm h1]at h;cases h
theorem vY{α:Type}{xs:List α}{i:Int}{v:α}(h:rj xs i=some v):∃j,seqIndex? i xs.length=some j∧xs[j]?=some v∧j<xs.length∧-(xs.length:Int)≤i∧i<xs.length:=by
 unfold rj at h;cases e:DQ xs.length i with
 |none=>rw[e]at h;cases h
 |some j=>
  rw[e]at h;obtain⟨h1,h2,h3,h4⟩:=A3 e;exact⟨j,h1,h,h2,h3,h4⟩
theorem ar{α:Type}{xs:List α}{j:Nat}{v:α}(h:xs[j]?=some v):rj xs (j:Int)=some v:=by
 have hj:j<xs.length:=(Y' h).1;have e:DQ xs.length (j:Int)=some j:=by
  unfold DQ;rw[if_pos Zw,if_pos Zw];simp
 unfold rj;rw[e];exact h
theorem ym{α:Type}(xs:List α)(v:α):rj (xs++[v]) (-1)=some v:=by
 have hl:(xs++[v]).length=xs.length+1:=ZD;have e:DQ (xs++[v]).length (-1)=some xs.length:=by
  unfold DQ;rw[hl,if_neg (ZA),if_pos Zw]
  congr 1
  omega
 unfold rj;rw[e];show(xs++[v])[xs.length]?=some v;simp
def Gj(b:Expr):Prop:=∀o i,subscripted b false o i=operate [o,i] (getItem o i)
def LP(X:Cx)(r:R2):Prop:=
 ∀(value slice:Expr)(pins:List (Addr×Obj))(s:Shared)(σ:St)(H:Hp)(x y:V)(v u:Value)(Q:VK),Inv X pins σ H s→RelV x v→RelV y u→r x y H Q→
  subscripted slice false v u=operate [v,u] (getItem v u)→wpAny (model X.prog X.w) X.A (subscriptTail value slice v u) (EP X pins σ Q) X.xe s
def OY(X:Cx)(id:String)(r:V→List V→Hp→VK→Prop):Prop:=
 ∀(pins:List (Addr×Obj))(s:Shared)(σ:St)(H:Hp)(x:V)(xs:List V)(v:Value)(us:List Value)(Q:VK),Inv X pins σ H s→RelV x v→Vals xs us→r x xs H Q→
  wpAny (model X.prog X.w) X.A (call (.builtin id) (v::us)) (EP X pins σ Q) X.xe s
section
variable{X:Cx}{a b:Expr}{ta tb:TE}{pos:Pos}
theorem aB{r:R2}(hr:LP X r)(ha:PE X a ta)(hb:PE X b tb)(hs:Gj b):PE X (.Subscript a b pos) (OW r ta tb):=by
 intro pins s σ H Q I h;exact Subscript_ (JG ha hb I h fun v u s2 x y H2 I2 rx ry q=>hr a b pins s2 σ H2 x y v u Q I2 rx ry q (hs _ _))
inductive JT(K:PySem.W.Frag)(x:V)(y:V)(H:Hp)(Q:VK):Prop
 |mk (p:_) (xs:_) (i:_) (v:_) (_:x= .ref p) (_:y= .int i) (_:iC K H p xs) (_:rj xs i=some v) (_:Q v H):JT K x y H Q
inductive JU(K:PySem.W.Frag)(x:V)(y:V)(H:Hp)(Q:VK):Prop
 |mk (p:_) (xs:_) (i:_) (v:_) (_:x= .ref p) (_:y= .int i) (_:Dv K H p xs) (_:rj xs i=some v) (_:Q v H):JU K x y H Q
inductive M7(x:V)(y:V)(H:Hp)(Q:VK):Prop
 |mk (z:_) (i:_) (c:_) (_:x= .str z) (_:y= .int i) (_:z.length≤sizeLine) (_:rj z.cps.toList i=some c) (_:Q (.str ⟨#[c]⟩) H):M7 x y H Q
theorem Gk:LP X (JT X.K):=by
 intro value slice pins s σ H x y v u Q I rx ry h hs;obtain⟨p,xs,i,z,rfl,rfl,hq,he,q⟩:=h;cases rx;obtain⟨t,rfl⟩:=ry;obtain⟨its,r,pl,hz⟩:=I.list hq;obtain⟨j,h1,h2,h3,h4,h5⟩:=vY he;obtain⟨w,ew,ic⟩:=r.get h2;have hl:=r.length;have hn:=qb;have fin:EP X pins σ Q w s:=⟨z,H,I,ic,q⟩
 by_cases h0:0≤i
 ·have hj:i.toNat=j:=by
   rw[seqIndex_of h0 h5]at h1;exact Zt h1
  exact item_listR pl.isList h0 Zw (by rw[hj];simpa using ew) fin hs
 ·have hj:(i+(its.toArray.size:Int)).toNat=j:=by
   rw[seqIndex_neg Zw h4]at h1;rw[List.size_toArray,←hl];exact Zt h1
  exact subscriptTail_builtinR (x:=w) pl.isList.typeIs slot_list_getitem.lookup
   (wpAny_getItem_list_neg (Q:=fun r s'=>r=w∧EP X pins σ Q r s') pl.isList Zw (by rw[List.size_toArray]<;>omega) (Zz) (by rw[hj];simpa using ew) ⟨rfl,fin⟩) hs
theorem JV:LP X (JU X.K):=by
 intro value slice pins s σ H x y v u Q I rx ry h hs;obtain⟨p,xs,i,z,rfl,rfl,hq,he,q⟩:=h;cases rx;obtain⟨t,rfl⟩:=ry;obtain⟨its,r,pl,hz⟩:=I.tuple hq;obtain⟨j,h1,h2,h3,h4,h5⟩:=vY he;obtain⟨w,ew,ic⟩:=r.get h2;have hl:=r.length;have hn:=qb;have fin:EP X pins σ Q w s:=⟨z,H,I,ic,q⟩
 exact subscriptTail_builtinR (x:=w) pl.typeIs slot_tuple_getitem.lookup
  (getItem_tuple (j:=j) (Q:=fun r s'=>r=w∧EP X pins σ Q r s') pl Zw (Zz) (by rw[List.size_toArray,←hl];exact h1) (by simpa using ew) ⟨rfl,fin⟩) hs
theorem DR:LP X M7:=by
 intro value slice pins s σ H x y v u Q I rx ry h hs;obtain⟨z,i,c,rfl,rfl,hz,he,q⟩:=h;obtain⟨t,rfl⟩:=rx;obtain⟨t',rfl⟩:=ry;obtain⟨j,h1,h2,h3,h4,h5⟩:=vY he;have hl:z.cps.toList.length=z.length:=by simp[Str.length]
 rw[hl]at h1 h4 h5;have hn:=qb;exact tail_any (typeIs_str s z t) slot_str_getitem.lookup (getItem_str (c:=c) (by
  have e1:decide (i< -(2^63:Int))=false:=decide_eq_false Zw;have e2:decide (i≥2^63)=false:=decide_eq_false Zw;rw[e1,e2,Bool.or_false]) (by rw[h1];simpa using h2) ⟨.str ⟨#[c]⟩,H,I.tok _,⟨_,rfl⟩,q⟩) hs
theorem zI(its:List Value)(n j:Nat)(u:Value):Obj.mapSeq (·.setIfInBounds j u) {cls:= .type "list",data:= .seq its.toArray n}={cls:= .type "list",data:= .seq (its.set j u).toArray n}:=by
 simp[Obj.mapSeq]
theorem Inv.lst{pins:List (Addr×Obj)}{σ:St}{H:Hp}{s:Shared}{p:Addr}{xs:List V}(I:Inv X pins σ H s)(h:H p=some (.lst xs)):
  ∃(its:List Value)(n:Nat),Vals xs its∧s.heap.get? p=some {cls:= .type "list",data:= .seq its.toArray n}∧xs.length≤sizeLine:=by
 obtain⟨z,its,n,r,e⟩:=I.bX p _ h;exact⟨its,n,r,e,z⟩
theorem Inv.JW{pins:List (Addr×Obj)}{σ:St}{H:Hp}{s:Shared}{p:Addr}{xs ys:List V}{its its':List Value}{n n':Nat}{f:Obj→Obj}(I:Inv X pins σ H s)(h:H p=some (.lst xs))
  (ho:s.heap.get? p=some {cls:= .type "list",data:= .seq its.toArray n}) (hf:f {cls:= .type "list",data:= .seq its.toArray n}={cls:= .type "list",data:= .seq its'.toArray n'}) (r:Vals ys its') (hz:ys.length≤sizeLine) (t:Nat):
  Inv X pins σ (upd H p (.lst ys)) {s with heap:=s.heap.update p f,toks:=t}:=by
 have e:(s.heap.update p f).get? p=some {cls:= .type "list",data:= .seq its'.toArray n'}:=by
  rw[Heap.get?_update_self f ho (by rw[hf]<;>rfl),hf]
 refine I.write (x:=p) (e:=p) (by rw[h];trivial) (.inl rfl) (fun b u hb q=>(Heap.get?_update_other _ _ (Ne.symm hb)).trans q) ⟨_,e⟩ ?_;exact⟨hz,its',n',r,e⟩
inductive Ic(o:V)(i:V)(v:V)(H:Hp)(Q:(Hp→Prop)):Prop
 |mk (p:_) (xs:_) (k:_) (j:_) (_:o= .ref p) (_:i= .int k) (_:H p=some (.lst xs)) (_:DQ xs.length k=some j) (_:Q (upd H p (.lst (xs.set j v)))):Ic o i v H Q
theorem set_list:MJ X Ic:=by
 intro pins s σ H o i v ov iv u Q I ro ri rv h;obtain⟨p,xs,k,j,rfl,rfl,hp,hj,q⟩:=h;cases ro;obtain⟨t,rfl⟩:=ri;obtain⟨its,n,r,ho,hz⟩:=I.lst hp;obtain⟨h1,h2,h3,h4⟩:=A3 hj;have hl:=r.length;have hn:=qb;have I':Inv X pins σ (upd H p (.lst (xs.set j v))) {s with heap:=s.heap.update p (Obj.mapSeq (·.setIfInBounds j u))}:=
  I.JW hp ho (zI its n j u) (r.set rv j) (by rw[List.length_set];exact hz) s.toks
 by_cases h0:0≤k
 ·have hk:k.toNat=j:=by
   rw[seqIndex_of h0 h4]at h1;exact Zt h1
  exact PySem.W.ki_setAt ho h0 Zw (by rw[List.size_toArray,←hl];exact h4) (by rw[hk];exact⟨_,I',q⟩)
 ·have hk:(k+(its.toArray.size:Int)).toNat=j:=by
   rw[seqIndex_neg Zw h3]at h1;rw[List.size_toArray,←hl];exact Zt h1
  exact PySem.W.ki_setBack ho Zw (by rw[List.size_toArray,←hl];exact h3) (Zz) (by rw[hk];exact⟨_,I',q⟩)
theorem vZ(lo hi:Option Int)(n:Nat):(sliceBounds lo hi none n).1=((HT.ku n 0 lo:Nat):Int)∧(sliceBounds lo hi none n).2.1=((HT.ku n n hi:Nat):Int)∧(sliceBounds lo hi none n).2.2=1:=by
 refine⟨?_,?_,rfl⟩
 ·cases lo with
  |none=>simp[sliceBounds,HT.ku]
  |some i=>
   simp only[sliceBounds,HT.ku,Option.getD_none,show(1:Int)>0 by decide,if_true];by_cases h:i<0
   ·simp only[h,if_true]<;>lia
   ·simp only[h,if_false]<;>lia
 ·cases hi with
  |none=>simp[sliceBounds,HT.ku]
  |some i=>
   simp only[sliceBounds,HT.ku,Option.getD_none,show(1:Int)>0 by decide,if_true];by_cases h:i<0
   ·simp only[h,if_true]<;>lia
   ·simp only[h,if_false]<;>lia
theorem uq(its:List Value)(lo hi:Option Int):slicePick its.toArray lo hi none=((its.drop (HT.ku its.length 0 lo)).take (HT.ku its.length its.length hi-HT.ku its.length 0 lo)).toArray:=by
 obtain⟨h1,h2,h3⟩:=vZ lo hi its.toArray.size;unfold slicePick;rw[h1,h2,h3];simp only[sliceRange_one,pick_run,List.size_toArray]<;>rfl
inductive JX(K:PySem.W.Frag)(x:V)(lo:Option Int)(hi:Option Int)(H:Hp)(Q:VK):Prop
 |mk (a:_) (xs:_) (_:x= .ref a) (_:iC K H a xs) (_:∀p,H p=none→Q (.ref p) (upd H p (.lst (B8 xs lo hi)))):JX K x lo hi H Q
theorem Gm:OX X (JX X.K):=by
 intro pins s σ H x v vl vu lo hi sl Q I rx hs pl pu h;obtain⟨a,xs,rfl,hx,q⟩:=h;cases rx;obtain⟨its,r,ht,hz⟩:=I.list hx;have hlen:=r.length;refine⟨"list",_,slot_list_getitem.lookup,ht.isList.typeIs,?_⟩;refine wpAny_getItem_list_slice ht.isList hs pl pu .none (ZD) ?_ (by rw[List.size_toArray]<;>omega);rw[uq,←hlen];refine⟨.ref s.heap.objs.size,_,I.laid (t':=s.toks) (o:= .lst (B8 xs lo hi)) (fun b ob q=>Zn q) (Nat.le_refl _) ?_,rfl,q _ (I.bX.fresh (Nat.le_refl _))⟩;exact⟨Nat.le_trans (yl xs lo hi) hz,_,0,(r.drop (HT.ku xs.length 0 lo)).take (HT.ku xs.length xs.length hi-HT.ku xs.length 0 lo),Heap.get?_push_size _ rfl⟩
def rk:V→Bool
 | .cN=>true
 | .bl _=>true
 | .int _=>true
 | .str _=>true
 | _=>false
def v5:V→V→Bool
 | .cN, .cN=>true
 | .bl a, .bl b=>a==b
 | .bl a, .int b=>(if a then 1 else 0)==b
 | .int a, .bl b=>a==(if b then 1 else 0)
 | .int a, .int b=>a==b
 | .str a, .str b=>a==b
 | _,_=>false
theorem v7{A:Around}{s:Shared}{y x:V}{u v:Value}(ry:RelV y u)(rx:RelV x v)(fy:rk y=true)(fx:rk x=true):SeqAt.EqAt A s u v (v5 y x):=by
 cases y with
 |cN=>
  cases ry;cases x with
  |cN=>cases rx;exact SeqAt.EqAt.same _
  |bl b=>cases rx;exact SeqAt.EqAt.none_bool b
  |int b=>obtain⟨t,rfl⟩:=rx;exact SeqAt.EqAt.none_int b t
  |str b=>obtain⟨t,rfl⟩:=rx;exact SeqAt.EqAt.none_str b t
  | _=>exact absurd (show false=true from fx) Bool.false_ne_true
 |bl a=>
  cases ry;cases x with
  |cN=>cases rx;exact SeqAt.EqAt.bool_none a
  |bl b=>cases rx;exact SeqAt.EqAt.bool_bool a b
  |int b=>obtain⟨t,rfl⟩:=rx;exact SeqAt.EqAt.bool_int a b t
  |str b=>obtain⟨t,rfl⟩:=rx;exact SeqAt.EqAt.bool_str a b t
  | _=>exact absurd (show false=true from fx) Bool.false_ne_true
 |int a=>
  obtain⟨t',rfl⟩:=ry;cases x with
  |cN=>cases rx;exact SeqAt.EqAt.int_none a t'
  |bl b=>cases rx;exact SeqAt.EqAt.int_bool a t' b
  |int b=>obtain⟨t,rfl⟩:=rx;exact SeqAt.EqAt.int_int a t' b t
  |str b=>obtain⟨t,rfl⟩:=rx;exact SeqAt.EqAt.int_str a t' b t
  | _=>exact absurd (show false=true from fx) Bool.false_ne_true
 |str a=>
  obtain⟨t',rfl⟩:=ry;cases x with
  |cN=>cases rx;exact SeqAt.EqAt.str_none a t'
  |bl b=>cases rx;exact SeqAt.EqAt.str_bool a t' b
  |int b=>obtain⟨t,rfl⟩:=rx;exact SeqAt.EqAt.str_int a t' b t
  |str b=>obtain⟨t,rfl⟩:=rx;exact SeqAt.EqAt.str_str a t' b t
  | _=>exact absurd (show false=true from fx) Bool.false_ne_true
 | _=>exact absurd (show false=true from fy) Bool.false_ne_true
theorem v8:iY X (.builtin "len") (fun xs H Q=>∃p ys,xs=[.ref p]∧(iC X.K H p ys∨Dv X.K H p ys)∧Q (.int ys.length) H):=by
 intro pins s σ H xs us Q I r h;obtain⟨p,ys,rfl,hq,q⟩:=h;obtain⟨u,rfl,rx⟩:=vals1 r;cases rx;have hn:=qb;rcases hq with hq|hq
 ·obtain⟨its,r',pl,hz⟩:=I.list hq;have hlen:=r'.length;exact Calls.call_len_list pl.isList (by simp only[List.size_toArray]<;>omega) ⟨.int ys.length,H,I.tok _,⟨s.toks+1,by rw[List.size_toArray,hlen]⟩,q⟩
 ·obtain⟨its,r',pl,hz⟩:=I.tuple hq;have hlen:=r'.length;exact len_tuple pl (by simp only[List.size_toArray]<;>omega) ⟨.int ys.length,H,I.tok _,⟨s.toks+1,by rw[List.size_toArray,hlen]⟩,q⟩
theorem ow:iY X (.builtin "len") (fun xs H Q=>∃z,xs=[.str z]∧z.length≤sizeLine∧Q (.int z.length) H):=by
 intro pins s σ H xs us Q I r h;obtain⟨z,rfl,hz,q⟩:=h;obtain⟨u,rfl,t,rfl⟩:=vals1 r;have hn:=qb;exact len_str Zw ⟨.int z.length,H,I.tok _,⟨_,rfl⟩,q⟩
theorem v9:iY X (.type "list") (fun xs H Q=>∃p ys,xs=[.ref p]∧(iC X.K H p ys∨Dv X.K H p ys)∧∀l,H l=none→Q (.ref l) (upd H l (.lst ys))):=by
 intro pins s σ H xs us Q I r h;obtain⟨p,ys,rfl,hq,q⟩:=h;obtain⟨u,rfl,rx⟩:=vals1 r;cases rx;have fin:∀(its:List Value),Vals ys its→ys.length≤sizeLine→∀(h':Heap)(c':Nat),(∀b o',s.heap.get? b=some o'→h'.get? b=some o')→
   h'.get? s.heap.objs.size=some {cls:= .type "list",dict:=none,data:= .seq its.toArray c',slots:=#[]}→EP X pins σ Q (.ref s.heap.objs.size) {s with heap:=h'}:=fun its r' hz h' c' kp e=>
  ⟨.ref s.heap.objs.size,_,I.laid (t':=s.toks) kp (Nat.le_refl _) (show cO X.prog X.w _ h' _ (.lst ys)from⟨hz,its,c',r',e⟩),rfl,q _ (I.bX.fresh (Nat.le_refl _))⟩
 rcases hq with hq|hq
 ·obtain⟨its,r',pl,hz⟩:=I.list hq;have hlen:=r'.length;obtain⟨o,ho,hc,n,hd⟩:=pl.isList;exact call_list_seq p (.inl rfl) ho hc hd (fun h' c' kp e=>fin its r' hz h' c' kp e) (by simp only[List.size_toArray]<;>omega)
 ·obtain⟨its,r',pl,hz⟩:=I.tuple hq;have hlen:=r'.length;obtain⟨o,ho,hc,n,hd⟩:=pl;exact call_list_seq p (.inr rfl) ho hc hd (fun h' c' kp e=>fin its r' hz h' c' kp e) (by simp only[List.size_toArray]<;>omega)
def QM(K:PySem.W.Frag)(T:String)(x:V)(H:Hp):Prop:=match x with
 | .str _=>T="str"
 | .int _=>T="int"
 | .ref p=>(T="list"∧∃xs,iC K H p xs)∨(T="tuple"∧∃o,K.lookup p=some o∧o.cls= .type "tuple"∧o.dict=none)∨
   (T="dict"∧((∃kvs,H p=some (.dK kvs))∨∃kvs,H p=some (.dT kvs)))∨(T="set"∧∃S n,H p=some (.set S n))
 | _=>False
theorem DS{pins:List (Addr×Obj)}{σ:St}{H:Hp}{s:Shared}{T:String}{x:V}{v:Value}(I:Inv X pins σ H s)(r:RelV x v)(ty:QM X.K T x H):
  s.TypeIs v T∧∀a,v= .ref a→∃ob,s.heap.get? a=some ob∧ob.dict=none:=by
 cases x with
 |str z=>
  obtain⟨t,rfl⟩:=r;cases(show T="str" from ty);exact⟨typeIs_str s z t,fun _ e=>nomatch e⟩
 |int i=>
  obtain⟨t,rfl⟩:=r;cases(show T="int" from ty);exact⟨typeIs_int s i t,fun _ e=>nomatch e⟩
 |ref p=>
  cases r;rcases ty with⟨rfl,xs,hq⟩|⟨rfl,o,hk,hc,hd⟩|⟨rfl,hk⟩|⟨rfl,S,n,hk⟩
  ·obtain⟨its,_,pl,_⟩:=I.list hq;refine⟨pl.isList.typeIs,fun a e=>?_⟩;cases e;obtain⟨o,n,e,c,hd,_⟩:=pl;exact⟨o,e,hd⟩
  ·refine⟨⟨o,I.p9 p o hk,hc⟩,fun a e=>?_⟩;cases e;exact⟨o,I.p9 _ o hk,hd⟩
  ·have z:∃o,s.heap.get? p=some o∧o.ExactDict:=by
    rcases hk with⟨kvs,hk⟩|⟨kvs,hk⟩
    ·obtain⟨_,_,_,_,o,_,_,e,ex,_⟩:=I.bX p _ hk;exact⟨o,e,ex⟩
    ·obtain⟨_,_,_,_,o,_,_,e,ex,_⟩:=I.bX p _ hk;exact⟨o,e,ex⟩
   obtain⟨o,e,ex⟩:=z;refine⟨⟨o,e,ex.1⟩,fun a e2=>?_⟩;cases e2;exact⟨o,e,ex.2.1⟩
  ·obtain⟨o,_,_,_,e,ex,_⟩:=I.bX p _ hk;refine⟨⟨o,e,ex.1⟩,fun a e2=>?_⟩;cases e2;exact⟨o,e,ex.2.1⟩
 | _=>exact False.elim ty
def M8(K:PySem.W.Frag)(T:String)(r:V→List V→Hp→VK→Prop)(to:TE):TE:=fun σ H Q=>to σ H fun x H1=>QM K T x H1∧r x [] H1 Q
def Tx(K:PySem.W.Frag)(T:String)(r:V→List V→Hp→VK→Prop)(to:TE)(t:TA):TE:=fun σ H Q=>to σ H fun x H1=>QM K T x H1∧t σ H1 fun xs H2=>r x xs H2 Q
variable{o e:Expr}{es:List Expr}{to:TE}{t:TA}{name:Str}{apos eD:Pos}{T id:String}{r:V→List V→Hp→VK→Prop}
theorem JY(pa:PlainAttrs T)(slot:Slot T name id)(Dd:typeOf (.builtin id)=pure (.type "method_descriptor"))(hm:OY X id r)(ho:PE X o to)
  (oz:attributeBase o name X.env (eval o X.env)=eval o X.env:=by rfl) (oA:(apos.endLine==eD.line)=true:=by rfl):PE X (.Call (.Attribute o name apos) [] [] eD) (M8 X.K T r to):=by
 intro pins s σ H Q I h;refine wpAny_Call_method0_late oz oA (cH (ho pins s σ H _ I h) fun v s1 ⟨x,H1,I1,r1,ty,q1⟩=>?_);obtain⟨h1,h2⟩:=DS I1 r1 ty;exact⟨T,id,pa,slot,Dd,h1,h2,Calls.callWith_builtin rfl (PySem.evalArgs_none (hm pins s1 σ H1 x [] v [] Q I1 r1 .nil q1))⟩
theorem M9(pa:PlainAttrs T)(slot:Slot T name id)(Dd:typeOf (.builtin id)=pure (.type "method_descriptor"))(hm:OY X id r)(ho:PE X o to)(ha:PA X (e::es) t)
  (oz:attributeBase o name X.env (eval o X.env)=eval o X.env:=by rfl)
  (DT:((backTo eD (starEach (e::es) X.env)).all (fun x=>!x.1)&&(backToKw eD (keywordEach [] X.env)).all (fun x=>x.1.isSome)
   &&decide ((e::es).length+([]:List Keyword).length+(if ([]:List Keyword).isEmpty then 0 else 1)<30))=true:=by rfl)
  (oA:(apos.endLine==eD.line)=true:=by rfl) (hs:starEach (e::es) X.env=(false,eval e X.env)::starEach es X.env:=by rfl) (zJ:(backTo eD (starEach es X.env)).any (·.1)=false:=by rfl):
  PE X (.Call (.Attribute o name apos) (e::es) [] eD) (Tx X.K T r to t):=by
 intro pins s σ H Q I h;refine wpAny_Call_method_late oz DT oA rfl (cH (ho pins s σ H _ I h) fun v s1 ⟨x,H1,I1,r1,ty,q1⟩=>?_);obtain⟨h1,h2⟩:=DS I1 r1 ty;refine⟨T,id,pa,slot,Dd,h1,h2,?_⟩;have hA:=ha eD pins s1 σ H1 _ I1 q1;rw[hs]at hA⊢;refine Calls.callWith_builtin (by show(false||(backTo eD (starEach es X.env)).any (·.1))=false;rw[zJ]<;>rfl) (Calls.evalArgs_plain ?_);exact cH hA fun us s2 ⟨vs,H2,I2,r2,q2⟩=>hm pins s2 σ H2 x vs v us Q I2 r1 r2 q2
end
def QN(X:Cx)(id:String)(r:V→List V→Hp→VK→Prop):Prop:=
 ∀(pins:List (Addr×Obj))(s:Shared)(σ:St)(H:Hp)(x:V)(xs:List V)(v:Value)(us:List Value)(Q:VK),Inv X pins σ H s→RelV x v→Vals xs us→r x xs H Q→
  wpAny (model X.prog X.w) X.A (call (.builtin id) (v::us)) (EP X pins σ Q) X.xe s
theorem Vals.one:∀{x:V}{us:List Value},Vals [x] us→∃u,us=[u]∧RelV x u
 | _,_, .cons r .nil=>⟨_,rfl,r⟩
theorem Vals.zero:∀{us:List Value},Vals [] us→us=[]
 | _, .nil=>rfl
theorem Vals.reverse{xs:List V}{us:List Value}(h:Vals xs us):Vals xs.reverse us.reverse:=by
 induction h with
 |nil=>exact .nil
 |cons r t ih=>rw[List.reverse_cons,List.reverse_cons];exact Vals.append ih (.cons r .nil)
theorem Vals.rep{xs:List V}{us:List Value}(h:Vals xs us):∀k:Nat,Vals (List.replicate k xs).flatten (List.replicate k us).flatten
 |0=> .nil
 |k+1=>by
  rw[List.replicate_succ,List.replicate_succ,List.flatten_cons,List.flatten_cons];exact Vals.append h (Vals.rep h k)
theorem foldl_rep(its:List Value):∀(k:Nat)(acc:List Value),
  List.foldl (fun x1 x2=>x1++x2) acc.toArray (List.replicate k its.toArray)=(acc++(List.replicate k its).flatten).toArray
 |0,acc=>ZD
 |k+1,acc=>by
  have e:acc.toArray++its.toArray=(acc++its).toArray:=ZD;have e2:(acc++its)++(List.replicate k its).flatten=acc++(List.replicate (k+1) its).flatten:=by
   rw[List.replicate_succ,List.flatten_cons,List.append_assoc]
  rw[←e2,←foldl_rep its k (acc++its),←e,List.replicate_succ,List.foldl_cons]
section
variable{X:Cx}{pins:List (Addr×Obj)}{σ:St}{H:Hp}{s:Shared}{l b:Addr}{xs ys zs:List V}
theorem Inv.JZ{its its':List Value}{n:Nat}{f:Array Value→Array Value}{t':Nat}(I:Inv X pins σ H s)(hH:H l=some (.lst xs))
  (e:s.heap.get? l=some {cls:= .type "list",data:= .seq its.toArray n}) (hf:f its.toArray=its'.toArray) (hv:Vals ys its') (hz:ys.length≤sizeLine):
  Inv X pins σ (upd H l (.lst ys)) {s with heap:=s.heap.update l (Obj.mapSeq f),toks:=t'}:=by
 have q:=PySem.IsL.update e f;rw[hf]at q;refine I.write (x:=l) (e:=l) (by rw[hH];exact trivial) (.inl rfl) (fun b' u hb hu=>(Heap.get?_update_other s.heap (Obj.mapSeq f) (Ne.symm hb)).trans hu) ⟨_,q⟩ ?_;exact⟨hz,its',_,hv,q⟩
theorem Inv.QO{its:List Value}{t':Nat}(I:Inv X pins σ H s)(hv:Vals ys its)(hz:ys.length≤sizeLine):
  Inv X pins σ (upd H s.heap.objs.size (.lst ys)) {s with heap:=s.heap.push {cls:= .type "list",data:= .seq its.toArray},toks:=t'}:=
 I.laid (fun _ _ q=>Zn q) (Nat.le_refl _) ⟨hz,its,0,hv,Heap.get?_push_size _ rfl⟩
theorem Inv.fresh(I:Inv X pins σ H s):H s.heap.objs.size=none:=I.bX.fresh (Nat.le_refl _)
theorem Inv.DV(I:Inv X pins σ H s)(hH:H l=some (.lst xs)):xs.length≤sizeLine∧∃(its:List Value)(n:Nat),Vals xs its∧xs.length=its.length∧s.heap.get? l=some {cls:= .type "list",data:= .seq its.toArray n}:=by
 obtain⟨z,its,n,r,e⟩:=I.bX l _ hH;exact⟨z,its,n,r,r.length,e⟩
theorem yn{n:Nat}(h:n≤sizeLine):Builtin.List.listTooLong n=false:=by
 unfold Builtin.List.listTooLong;exact decide_eq_false Zw
end
section
variable{X:Cx}
inductive A4(x:V)(vs:List V)(H:Hp)(Q:VK):Prop
 |mk (l:_) (xs:_) (y:_) (_:x= .ref l) (_:vs=[y]) (_:H l=some (.lst xs)) (_:xs.length<sizeLine) (_:Q .cN (upd H l (.lst (xs++[y])))):A4 x vs H Q
theorem bQ:QN X "list.append" A4:=by
 intro pins s σ H x vs v us Q I rx rv h;obtain⟨l,xs,y,rfl,rfl,hH,hz,q⟩:=h;cases rx;obtain⟨u,rfl,ru⟩:=rv.one;obtain⟨z,its,n,r,hl,e⟩:=I.DV hH;refine call_meets F.slot_list_append ⟨_,e,rfl⟩ F.entry_list_append (F.args_list_append_2 _ _) (PySem.list_append l its.toArray n u (by rw[List.size_toArray];omega)) ⟨e,?_⟩;refine⟨.cN,_,I.JZ (its':=its++[u]) hH e Zu (r.append (.cons ru .nil)) ?_,rfl,q⟩;rw[List.length_append,List.length_singleton];omega
def Gp:V→List V→Hp→VK→Prop:=fun x vs H Q=>∃l b xs zs,x= .ref l∧vs=[.ref b]∧H l=some (.lst xs)∧H b=some (.lst zs)∧xs.length+zs.length≤sizeLine∧Q .cN (upd H l (.lst (xs++zs)))
theorem vm:QN X "list.extend" Gp:=by
 intro pins s σ H x vs v us Q I rx rv h;obtain⟨l,b,xs,zs,rfl,rfl,hH,hB,hz,q⟩:=h;cases rx;obtain⟨u,rfl,ru⟩:=rv.one;cases ru;obtain⟨z,its,n,r,hl,e⟩:=I.DV hH;obtain⟨z2,eE,n2,r2,sJ,e2⟩:=I.DV hB;have hsz:its.toArray.size+eE.toArray.size≤sizeLine:=by rw[List.size_toArray,List.size_toArray];omega
 have DW:¬(!its.toArray.isEmpty&&Builtin.List.listTooLong (its.toArray.size+eE.toArray.size))=true:=by
  rw[yn hsz,Bool.and_false];exact Bool.false_ne_true
 refine call_meets F.slot_list_extend ⟨_,e,rfl⟩ F.entry_list_extend (F.args_list_extend_2 _ _)
  (AutoSeq1.list_extend_list_list_0 l its.toArray n b eE.toArray n2 DW (by rw[List.size_toArray];omega) (Zz)) ⟨e,e2,?_⟩
 refine⟨.cN,_,I.JZ (its':=its++eE) hH e Zu (r.append r2) ?_,rfl,q⟩;rw[List.length_append];omega
def DX:V→List V→Hp→VK→Prop:=fun x vs H Q=>∃l xs,x= .ref l∧vs=[]∧H l=some (.lst xs)∧Q .cN (upd H l (.lst xs.reverse))
theorem zK:QN X "list.reverse" DX:=by
 intro pins s σ H x vs v us Q I rx rv h;obtain⟨l,xs,rfl,rfl,hH,q⟩:=h;cases rx;have QP:=rv.zero;subst QP;obtain⟨z,its,n,r,hl,e⟩:=I.DV hH;refine call_meets F.slot_list_reverse ⟨_,e,rfl⟩ F.entry_list_reverse (F.args_list_reverse_1 _) (AutoSeq1.list_reverse_list_0 l its.toArray n (by rw[List.size_toArray];omega)) ⟨e,?_⟩;refine⟨.cN,_,I.JZ (its':=its.reverse) hH e Zu r.reverse ?_,rfl,q⟩;rw[List.length_reverse];omega
def QR:R2:=fun x y H Q=>∃l k xs,x= .ref l∧y= .int k∧H l=some (.lst xs)∧-(2^63)≤k∧k<2^63∧xs.length*k.toNat≤sizeLine∧
 ∀p,H p=none→Q (.ref p) (upd H p (.lst (List.replicate k.toNat xs).flatten))
theorem len_rep{α:Type}(xs:List α)(k:Nat):(List.replicate k xs).flatten.length=k*xs.length:=by
 induction k with
 |zero=>simp
 |succ k ih=>rw[List.replicate_succ,List.flatten_cons,List.length_append,ih,Nat.succ_mul,Nat.add_comm]
theorem J0:rH X (binaryOp .Mult) QR:=by
 intro pins s σ H x y v u Q I rx ry h;obtain⟨l,k,xs,rfl,rfl,hH,h1,h2,hz,q⟩:=h;cases rx;obtain⟨t,rfl⟩:=ry;obtain⟨z,its,n,r,hl,e⟩:=I.DV hH;have hlen:its.toArray.size*k.toNat≤sizeLine:=by rw[List.size_toArray,←hl];exact hz
 have QS:¬its.toArray.size*k.toNat>(2^63-1)/8:=by
  have:(sizeLine:Nat)≤(2^63-1)/8:=ZA;omega
 have QT:¬(!Builtin.List.listFitsIndex k)=true:=by
  rw[fitsIndex_both h1 h2];exact Bool.false_ne_true
 have DW:¬Builtin.List.listTooLong (its.toArray.size*k.toNat)=true:=by
  rw[yn hlen];exact Bool.false_ne_true
 have B9:List.foldl (fun x1 x2=>x1++x2) #[] (List.replicate (if its.toArray.isEmpty=true then 0 else k.toNat) its.toArray)=(List.replicate k.toNat its).flatten.toArray:=by
  have f0:∀m:Nat,List.foldl (fun x1 x2=>x1++x2) #[] (List.replicate m its.toArray)=(List.replicate m its).flatten.toArray:=fun m=>by
   have:=foldl_rep its m [];rw[List.nil_append]at this;exact this
  rw[f0];cases its with
  |nil=>simp
  |cons a r'=>rw[if_neg Zu]
 refine wpAny_binaryOp_repeat_ref (T:="list") (U:="int") (ZA) ⟨_,e,rfl⟩ (fun s'=>typeIs_int s' k t) noFill_list_mul F.fills_int_mul F.slot_int_rmul repeat_list F.slot_int_index.lookup
  (call_meets F.slot_int_rmul (typeIs_int s k t) F.entry_int_rmul (F.args_int_rmul_2 _ _) (int___rmul___int_list k t l its.toArray n)
   ⟨e,rfl,⟨_,e,rfl⟩,call_meets F.slot_list_mul ⟨_,e,rfl⟩ F.entry_list_mul (F.args_list_mul_2 _ _) (AutoListH.list___mul___list_int_3 l its.toArray n k t QT QS DW) ⟨e,?_⟩⟩)
 rw[B9];exact⟨.ref _,_,I.QO (t':=s.toks) (r.rep k.toNat) (by rw[len_rep,Nat.mul_comm];exact hz),rfl,q _ I.fresh⟩
end
section
variable{prog:Program}{w:World}{A:Around}{E:Value→Shared→Prop}{s:Shared}
end
section
variable{X:Cx}
end
end L2
namespace Tz
open PySem PySem.W PySem.Calls PyProof.Rows
theorem rJ{P:Params}{h:Heap}:∀(ns:List Int)(vs:List Value),WellAll P h vs (ns.map WData.int)→IntsAre vs ns:=by
 intro ns
 induction ns with
 |nil=>
  intro vs w;rw[List.map_nil]at w;cases w;exact .nil
 |cons n ns ih=>
  intro vs w;rw[List.map_cons]at w;cases w with
  |cons a b=>
   cases a;exact .cons _ _ (ih _ b)
theorem B_{l:OpenLaw}{n:Nat}(hn:l.most=some n){P:Params}{h:Heap}{args:List WData}{vals:List Value}
  (Gq:l.row.toRowW.claim.pre args=true) (M_:WellAll P h vals args):
  ∃a vs ns,vals=[Value.ref a]∧args=[WData.list (ns.map WData.int)]∧h.get? a=some {cls:= .type "list",data:= .seq vs.toArray}∧IntsAre vs ns∧ns.length≤n:=by
 have Na:WShape.hasAll [] args [.list .int]=true:=(pre_splitW Gq).1;have hc:l.pre.holds [] {args:=args}=true:=(pre_splitW Gq).2;obtain⟨d,r,rfl,h1,h2⟩:=hasAllW_cons Na;obtain rfl:=hasAllW_nil h2;obtain⟨xs,rfl,h3⟩:=hasW_list h1;obtain⟨ns,rfl⟩:=items_int h3;have hlen:ns.length≤n:=by
  unfold OpenLaw.pre at hc;have h4:(WTm.not (.lt (.lit (.int (n:Int))) (.len (.arg 0)))).holds [] {args:=[.list (ns.map .int)]}=true:=by
   have h4:=(holds_andW hc).1;rw[hn]at h4;exact h4
  have h5:=condW_of h4 (w_not (w_lt w_lit (w_len_list (w_arg rfl))));rw[List.length_map]at h5;refine Nat.le_of_not_lt fun q=>?_
  have q':(n:Int)<((ns.length:Nat):Int):=Zz;first
   |(rw[decide_eq_true q']at h5;exact absurd h5 (ZA))
   |(simp at h5;omega)
 cases M_ with
 |cons w1 w2=>
  cases w2;cases w1 with
  |list ho QU=>exact⟨_,_,ns,rfl,rfl,ho,rJ ns _ QU,hlen⟩
theorem Ca(l:OpenLaw)(args:List WData):l.row.toRowW.claim.post args (.bool true) args=true:=
 postW_of (r:=l.row.toRowW) (X:=(true==true))
  (show WShape.has [] (.bool true) .bool=true by first|rfl|decide|simp[WShape.has,WShape.arms,WShape.armsAll])
  (show(WTm.eq .res (.lit (.bool true))).value [] {args:=args,res:=some (.bool true),after:=args}=some (.bool (true==true))from w_eq_bool (w_res rfl) w_lit) rfl
theorem yo{l:OpenLaw}{n:Nat}{q:Program}{loose:List Str}{XP:(Str→Option Value)→Heap→Prop}{YP:World→Heap→Prop}{d:DefRec}
  (hn:l.most=some n) (Nb:d.params.defaults=[])
  (call:∀(w:World)(dz cn:Shared)(mg mb:Str→Option Value)(fa:Addr)(o:Obj)(pm cd doc:Value)(a:Addr)(vs:List Value)(ns:List Int),
   Ground q loose [] XP w dz mg mb cn.heap→YP w cn.heap→
   cn.heap.get? fa=some o→o.data= .func (docDef d.name d.params d.body d.scope pm cd doc)→cn.heap.CodeRec cd d.name→mg d.name=some (.ref fa)→
   cn.heap.get? a=some {cls:= .type "list",data:= .seq vs.toArray}→IntsAre vs ns→ns.length≤n→cn.gens=#[]→
   codeAny (model l.prog w) callerA (.call (.ref fa) ⟨[.ref a],[]⟩) (fun r s'=>r= .ok (.ret (.bool true))∧OldK cn.heap s'.heap∧s'.os=cn.os∧AllBare s'.gens) cn):
  WalkO q loose XP YP l.row.toRowW d [] (fun f vs=>PySem.call f vs):=by
 intro w dz cn mg mb G Y fa o pm cd doc dV kV ho hd BR hD Nc hg args vals as Gq VR Yq M_ LQ;obtain rfl:dV= .none:=Dflts.none hD Nb;obtain rfl:kV= .none:=Dflts.noKw hD;obtain⟨a,vs,ns,rfl,rfl,J1,hints,hlen⟩:=B_ hn Gq M_;refine enter_call (codeAny_mono (call w dz cn mg mb fa o pm cd doc a vs ns G Y ho (fd_plain hd) BR Nc J1 hints hlen hg) fun r s' hq=>?_);obtain⟨rfl,h2,h3,h4⟩:=hq;exact⟨.inl ⟨.bool true, .bool true,[],rfl,fun _=>rfl, .bool true,Ca l _,fun _=>⟨List.Pairwise.nil,fun _ hm=>(nomatch hm)⟩⟩,h2,h3,h4⟩
section
variable{prog:Program}{w:World}{A:Around}{E:Value→Shared→Prop}{s:Shared}{K:Frag}
def ledger(h:Heap)(L d:Addr):List (Addr×Obj):=(List.range h.objs.size).filterMap fun a=>if a=L∨a=d then none else(h.get? a).map fun o=>(a,o)
end
end Tz
namespace L2
open PySem PySem.Spec PyProof.Rows
theorem vn:∀{vs:List Value}{ns:List Int},IntsAre vs ns→Vals (ns.map V.int) vs
 | _,_, .nil=> .nil
 | _,_, .cons n t h=> .cons ⟨t,rfl⟩ (vn h)
def J2(H:Hp):Prop:=∀b,H b=none∨∃o xs,H b=some (.r9 o (.lst xs))
theorem DY{cm:Bool}{P:Program}{w:World}{K:PySem.W.Frag}{mg mb:Str→Option Value}{CX:DG}{k:Nat}{fa a:Addr}{fd:FuncData}{x:Str}{sp:Sp}{cn:Shared}{vs:List Value}{ns:List Int}
  (KX:K.In cn.heap) (OZ:cn.heap.Ns mainGlobals mg) (hb:cn.heap.Ns builtinsNs mb) (VS:∀x:Str,x≠"__name__"→mb x=bootBuiltins x) (QV:cn.heap.NoLimit) (hg:cn.gens=#[])
  (ha:cn.heap.get? a=some {cls:= .type "list",data:= .seq vs.toArray}) (hi:IntsAre vs ns) (hl:ns.length≤sizeLine) (hr:eQ cm k callerA)
  (F:∀base:Heap,K.In base→base.Ns mainGlobals mg→aZ P w K mg base CX cm k fa fd [x] sp) (Nd:∀(s:Shared)(u:Value),BindsTo s fd ⟨[u],[]⟩ [(x,u)])
  (FJ:∀H:Hp,J2 H→iC K H a (ns.map V.int)→sp [.ref a] H (fun v _=>v= .bl true) fun _ _ _=>False)
  (QW:∀H e s',CX [] H cn (fun _ _ _=>False) e s'→False):
  codeAny (model P w) callerA (.call (.ref fa) ⟨[.ref a],[]⟩) (fun r s'=>r= .ok (.ret (.bool true))∧OldK cn.heap s'.heap∧s'.os=cn.os∧AllBare s'.gens) cn:=by
 have rv:=vn hi;have QX:=hi.length;have core:∀H:Hp,J2 H→iC K H a (ns.map V.int)→lr P w H cn.heap→(∀b,H b≠none→b=a)→(H a≠none→K.lookup a=none)→
   codeAny (model P w) callerA (.call (.ref fa) ⟨[.ref a],[]⟩) (fun r s'=>r= .ok (.ret (.bool true))∧OldK cn.heap s'.heap∧s'.os=cn.os∧AllBare s'.gens) cn:=by
  intro H hO hS bX hA hK;have A5:∀{b:Addr}{o:Obj},cn.heap.get? b=some o→H b=none→(vP cn.heap H).get? b=some o:=fun e n=>Dt e n
  have MW:∀{b:Addr}{o:Obj}{es:Array DictEntry}{ep:Nat},cn.heap.get? b=some o→o.data= .dict es ep→H b=none:=fun{b o es ep} e d=>by
   cases q:H b with
   |none=>rfl
   |some u=>
    have e':b=a:=hA b (by rw[q];simp);subst e';rw[ha]at e;cases e;have d':Data.seq vs.toArray _=Data.dict es ep:=d;cases d'
  have O0:∀{b:Addr}{m:Str→Option Value},cn.heap.Ns b m→(vP cn.heap H).Ns b m:=fun{b m} ⟨o,es,ep,e,d,r⟩=>⟨o,es,ep,A5 e (MW e d),d,r⟩
  have TC:K.In (vP cn.heap H):=fun b o e=>A5 (KX b o e) (by
   cases q:H b with
   |none=>rfl
   |some u=>
    have e':b=a:=hA b (by rw[q];simp);subst e';rw[hK (by rw[q];simp)]at e;cases e)
  have hM:Mod K mg (vP cn.heap H):=⟨TC,O0 OZ,⟨mb,O0 hb,VS⟩,let ⟨mc,h1,h2⟩:=QV;⟨mc,O0 h1,h2⟩⟩
  have e0:zF P w K mg (vP cn.heap H) callerA [] cn H:=⟨rfl,hM,fun b o e=>FZ e,Nat.le_of_eq (BP _ _),trivial,fun b hb=>absurd (show b∈([]:List Addr)from hb) (ZD),bX, .of_eq hg⟩
  refine codeAny_mono ((F _ TC (O0 OZ)).run callerA [] cn H ⟨[.ref a],[]⟩ [.ref a] [.ref a] _ _ hr e0 (Nd cn (.ref a)) (.cons rfl .nil) (FJ H hO hS)) fun r s' h=>?_
  cases r with
  |error e=>exact(QW H e s' h).elim
  |ok fl=>
   cases fl with
   |next=>exact False.elim h
   |brk=>exact False.elim h
   |cont=>exact False.elim h
   |ret u=>
    obtain⟨v,H',os,bare,un,QY,r',q⟩:=h;have q':v= .bl true:=q;subst q';obtain rfl:u=Value.bool true:=r';refine⟨rfl,OldK.of_keep fun b o e=>?_,os,bare⟩;cases q:H b with
    |none=>exact un.keep b o e q (by intro z;exact absurd (show b∈([]:List Addr)from z) (ZD)) (ZD)
    |some u=>
     rcases hO b with z|⟨ob,xs,z⟩
     ·rw[q]at z;cases z
     ·have z2:=un.n9 b ob _ z;obtain⟨e1,_⟩:=bX b _ z;obtain⟨e2,_⟩:=QY b _ z2;rw[e]at e1;cases e1;exact e2
 cases hk:K.lookup a with
 |some o=>
  have e:=KX a o hk;rw[ha]at e;cases e;refine core (fun _=>none) (fun _=> .inl rfl) (.inr ⟨_,vs.toArray,_,hk,rfl,rfl,rfl,by rw[List.size_toArray,QX];exact hl,by simpa using rv⟩) (fun b u z=>by have z':(none:Option HO)=some u:=z;cases z') (fun b z=>absurd rfl z) fun z=>absurd rfl z
 |none=>
  refine core (fun b=>if b=a then some (.r9 {cls:= .type "list",data:= .seq vs.toArray} (.lst (ns.map V.int)))else none) (fun b=>?_) (.inl (.inr ⟨{cls:= .type "list",data:= .seq vs.toArray},if_pos rfl⟩)) (fun b u z=>?_) (fun b z=>?_) fun _=>hk
  ·by_cases hb:b=a
   ·exact .inr ⟨_,_,Zp hb⟩
   ·exact .inl (Zm hb)
  ·by_cases hb:b=a
   ·have z':=(Zp hb).symm.trans z;cases z';subst hb;exact⟨ha,by rw[List.length_map];exact hl,vs,_,rv,ha⟩
   ·have z':=(Zm hb).symm.trans z;cases z'
  ·by_cases hb:b=a
   ·exact hb
   ·exact absurd (Zm hb) z
theorem Gr{cm:Bool}{l:PySem.W.OpenLaw}{n k:Nat}{q:Program}{loose:List Str}{XP:(Str→Option Value)→Heap→Prop}{YP:World→Heap→Prop}{d:DefRec}{K:Params→PySem.W.Frag}{CX:World→DG}{sp:World→Sp}{x:Str}
  (hn:l.most=some n) (xP:n≤sizeLine) (Nb:d.params.defaults=[]) (hr:eQ cm k callerA)
  (hY:∀(w:World)(h:Heap),YP w h→(K w.params).In h)
  (F:∀(w:World)(mg:Str→Option Value)(fa:Addr)(h:Heap),(K w.params).In h→h.Ns mainGlobals mg→mg d.name=some (.ref fa)→
   ∃fd:FuncData,(∀(s:Shared)(u:Value),BindsTo s fd ⟨[u],[]⟩ [(x,u)])∧
    ∀base:Heap,(K w.params).In base→base.Ns mainGlobals mg→aZ l.prog w (K w.params) mg base (CX w) cm k fa fd [x] (sp w))
  (FJ:∀(w:World)(H:Hp)(a:Addr)(ns:List Int),ns.length≤n→J2 H→iC (K w.params) H a (ns.map V.int)→sp w [.ref a] H (fun v _=>v= .bl true) fun _ _ _=>False)
  (QW:∀(w:World)(H:Hp)(s:Shared)(e:Value)(s':Shared),CX w [] H s (fun _ _ _=>False) e s'→False):
  PySem.W.WalkO q loose XP YP l.row.toRowW d [] (fun f vs=>PySem.call f vs):=by
 refine Tz.yo hn Nb fun w dz cn mg mb fa o pm cd doc a vs ns G Y ho hd BR Nc J1 hints hlen hg=>?_
 have KX:=hY w _ Y;obtain⟨fd,hb,hF⟩:=F w mg fa _ KX G.T.g Nc;exact DY KX G.T.g G.T.b G.T.builtins G.T.nolimit hg J1 hints (Nat.le_trans hlen xP) hr hF hb (fun H hO hS=>FJ w H a ns hlen hO hS) fun H e s'=>QW w H cn e s'
def inClass(s:Stmt)(j:Nat):Stmt:=match s with
 | .ClassDef _ _ _ body _ _ _ _ _ _ _=>body.getD j (.Pass ⟨0,0,0,0⟩)
 | _=> .Pass ⟨0,0,0,0⟩
def fm(s:Stmt):Arguments:=match s with
 | .FunctionDef _ a _ _ _ _ _ _ _ _=>a
 | _=>{posonlyargs:=[],args:=[],vararg:=none,kwonlyargs:=[],kw_defaults:=[],kwarg:=none,defaults:=[]}
def eI(s:Stmt):List Stmt:=match s with
 | .FunctionDef _ _ b _ _ _ _ _ _ _=>b
 | _=>[]
def au(s:Stmt):Scope:=match s with
 | .FunctionDef _ _ _ _ _ _ sc _ _ _=>sc
 | _=>{kind:= .function,names:=[],isGenerator:=false,isCoroutine:=false}
abbrev E0:XK:=fun _ _ _=>False
structure jn(K:PySem.W.Frag)(x qual:Str)(st:Stmt)(f:Addr)(fd:FuncData):Prop where
 ex:∃(oc:Value)(od:Option Addr)(kV doc pm:Value)(an:Option Addr)(bR ct:Value)(A0:Array (Option Value)),
  fd=PySem.W.fnOf x qual (fm st) (eI st) (au st) .none kV doc pm an bR ct∧K.lookup f=some ⟨oc,od, .func fd,A0⟩∧PySem.W.codeIn K bR qual=true
 kp:PySem.W.keepIn K (.ref f)=true
section
variable{P:Program}{w:World}{K:PySem.W.Frag}{mg:Str→Option Value}{base:Heap}
theorem jn.binds{x qual:Str}{st:Stmt}{f:Addr}{fd:FuncData}{ps:List Str}(F:jn K x qual st f fd)
  (h:∀(kV doc pm:Value)(an:Option Addr)(bR ct:Value)(us:List Value),us.length=ps.length→bindArgs (PySem.W.fnOf x qual (fm st) (eI st) (au st) .none kV doc pm an bR ct) ⟨us,[]⟩=pure (ps.zip us)):Binds K fd ps []:=by
 obtain⟨oc,od,kV,doc,pm,an,bR,ct,A0,rfl,lk,BR⟩:=F.ex;exact .all (h kV doc pm an bR ct)
theorem DZ{x qual:Str}{st:Stmt}{f:Addr}{oc:Value}{od an:Option Addr}{A0:Array (Option Value)}{kV doc pm bR ct:Value}(l:K.lookup f=some ⟨oc,od, .func (PySem.W.fnOf x qual (fm st) (eI st) (au st) .none kV doc pm an bR ct),A0⟩)
  (c:PySem.W.codeIn K bR qual=true) (k:PySem.W.keepIn K (.ref f)=true):jn K x qual st f (PySem.W.fnOf x qual (fm st) (eI st) (au st) .none kV doc pm an bR ct):=⟨⟨oc,od,kV,doc,pm,an,bR,ct,A0,rfl,l,c⟩,k⟩
end
section
variable{X:Cx}
theorem pv(i:Nat){x:Str}{pos:Pos}(hN:X.N[i]?=some x:=by rfl)(hv:Qk X.env.scope x:=by first|exact Or.inl rfl|exact Or.inr (Or.inl rfl)|exact Or.inr (Or.inr rfl))(hd:(x==("__debug__":Str))=false:=by decide)
  (BR:(x==("__classdict__":Str))=false:=by decide):PE X (.Name x pos) (Jw i):=Jx hN hv hd BR
end
theorem fN{A B:Prop}(h:B):if false=true then A else B:=by
 rw[Zm Bool.false_ne_true];exact h
theorem jP{A B:Prop}(h:A):if true=true then A else B:=by
 rw[if_pos rfl];exact h
theorem a9{c A B:Prop}[Decidable c](h1:c→A)(h2:¬c→B):if c then A else B:=by
 by_cases h:c
 ·rw[Zp h];exact h1 h
 ·rw[Zm h];exact h2 h
def ax(H H':Hp):Prop:=∀b o,H b=some o→H' b=some o
theorem ax.refl(H:Hp):ax H H:=fun _ _ h=>h
theorem ax.trans{H H1 H2:Hp}(a:ax H H1)(b:ax H1 H2):ax H H2:=fun c o h=>b c o (a c o h)
theorem ax.free{H H':Hp}(e:ax H H'){l:Addr}(h:H' l=Option.none):H l=Option.none:=by
 cases q:H l with
 |none=>rfl
 |some o=>
  rw[e l o q]at h;cases h
theorem ax.seq{K:PySem.W.Frag}{H H':Hp}{a:Addr}{xs:List V}(e:ax H H')(h:iC K H a xs):iC K H' a xs:=by
 rcases h with(h|⟨o,h⟩)|h
 ·exact .inl (.inl (e _ _ h))
 ·exact .inl (.inr ⟨o,e _ _ h⟩)
 ·exact .inr h
section
variable{κ:Type}[DecidableEq κ]
theorem yp{kvs:List (κ×V)}{k:κ}(h:bu kvs k=none):¬k∈kvs.map (·.1):=by
 intro m;obtain⟨p,hp,e⟩:=List.mem_map.mp m;have q:(kvs.any fun kv=>decide (kv.1=k))=true:=List.any_eq_true.mpr ⟨p,hp,decide_eq_true e⟩;rw[h_,h]at q;exact absurd q Zu
theorem A6{kvs:List (κ×V)}{k:κ}{v:V}(h:bu kvs k=some v):k∈kvs.map (·.1):=by
 have q:(kvs.any fun kv=>decide (kv.1=k))=true:=by
  rw[h_,h];all_goals rfl
 obtain⟨p,hp,e⟩:=List.any_eq_true.mp q;exact List.mem_map.mpr ⟨p,hp,of_decide_eq_true e⟩
end
end L2
namespace L2
open PySem PySem.Spec PyProof.Rows PySem.W
def cV(P:Program)(w:World):DG:=fun outer H s E e s'=>
 ∃(ea:Addr)(cls a0:Value)(B:Heap)(H':Hp),e= .ref ea∧s'.os=s.os∧AllBare s'.gens∧Heap.FlyingW B outer ea cls a0 s'.heap∧
  Un (n5 outer) [] H H' s.heap s'.heap∧lr P w H' B∧(∀b o,s.heap.get? b=some o→H b=none→b∉n5 outer→B.get? b=some o)∧(∀b o,s.heap.get? b=some o→b∉n5 outer→∃o',B.get? b=some o')∧E cls none H'
theorem aQ{P:Program}{w:World}{X:Cx}:Passes (cV P w) X (fun _=>E0):=fun _ _ _ _ _ _ _ ⟨_,_,_,_,_,_,_,_,_,_,_,_,_,h⟩=>h.elim
structure O1(X:Cx)(E:St→XK):Prop where
 raise:∀(pins:List (Addr×Obj))(σ:St)(H:Hp)(s:Shared)(h':Heap)(e:Addr)(cls:Value)(args:List Value),Inv X pins σ H s→Heap.MadeExcOf s.heap h' e cls args→E σ cls none H→X.xe (.ref e) {s with heap:=h'}
 pass:Passes (cV X.prog X.w) X E
 own:PassesOwn (model X.prog X.w) X.A X.env X.xe
theorem lr.hide{P:Program}{w:World}{H:Hp}{h:Heap}{as:List Addr}(ok:lr P w H h)(hf:∀b∈as,H b=none):lr P w H (hideAll h as):=fun a o e=>
 (ok a o e).vO (fun b u hb q=>hideAll_get _ q fun hm=>by
  rcases hb with rfl|hb
  ·rw[hf _ hm]at e;cases e
  ·rw[hf _ hm]at hb;cases hb) (fun b q=>q) fun b xs q=>q
section
variable{P:Program}{w:World}{K:PySem.W.Frag}{mg:Str→Option Value}{base:Heap}{N:List Str}{qual:Str}{scope:Scope}{f:Addr}{cd:Value}{A:Around}{outer:List Env}{s:Shared}{H:Hp}{E:XK}{cm:Bool}
theorem zL{P:Program}{w:World}{H:Hp}{h:Heap}{a:Addr}{o:HO}(x:cO P w H h a o):∃q,h.get? a=some q:=by
 cases o with
 |lst xs=>obtain⟨_,its,n,_,e⟩:=x;exact⟨_,e⟩
 |tup xs=>obtain⟨_,its,_,o,e,_⟩:=x;exact⟨_,e⟩
 |dK kvs=>obtain⟨_,_,vs,_,o,es,ep,e,_⟩:=x;exact⟨_,e⟩
 |dT kvs=>obtain⟨_,_,xs,_,o,es,ep,e,_⟩:=x;exact⟨_,e⟩
 |set S n=>obtain⟨o,es,ep,t,e,_⟩:=x;exact⟨_,e⟩
 |ins C dx fs=>obtain⟨_,_,_,e,_⟩:=x;exact⟨_,e⟩
 |own y=>exact x
 |xd fs=>obtain⟨mA,⟨o,es,ep,e,_⟩,_⟩:=x;exact⟨_,e⟩
 |met f y=>exact⟨_,x⟩
 |OP lo hi=>obtain⟨t,u,v,e⟩:=x;exact⟨_,e⟩
 |r9 o u=>exact⟨_,x.1⟩
 |FY ps=>exact⟨_,x⟩
 |ext φ=>exact x.2.1
theorem A7:O1 (zH (cV P w) cm P w K mg base N qual scope f cd A outer s H E) (fun _=>E):=by
 refine⟨?_,?_,PassesOwn.leaving⟩
 ·intro pins σ H1 s1 h' e cls args I hx hE;have QZ:(A.deeper (envOfC qual scope s.heap.objs.size f cd)).frames=some (envOfC qual scope s.heap.objs.size f cd::outer):=I.ok.frames;have u9:s1.heap.FunFrames base (envOfC qual scope s.heap.objs.size f cd::outer):=I.stack;have n6:∀env∈(envOfC qual scope s.heap.objs.size f cd::outer),∀b,env.frame=some b→b∈(envOfC qual scope s.heap.objs.size f cd::outer).filterMap (·.frame):=fun env he b hb=>List.mem_filterMap.mpr ⟨env,he,hb⟩
  have AQ:∀b∈(envOfC qual scope s.heap.objs.size f cd::outer).filterMap (·.frame),H1 b=none:=I.vQ;show wpAny (model P w) (A.deeper (envOfC qual scope s.heap.objs.size f cd)) (leaving (envOfC qual scope s.heap.objs.size f cd) (.ref e)) (fun _ vV=>cV P w outer H s E (.ref e) vV) (fun e' vV=>cV P w outer H s E e' vV) {s1 with heap:=h'};have zM:∀b o,s.heap.get? b=some o→b∉n5 outer→b∉(envOfC qual scope s.heap.objs.size f cd::outer).filterMap (·.frame):=fun b o q hb hm=>by
   obtain⟨env,he,hf⟩:=List.mem_filterMap.mp hm;rcases List.mem_cons.mp he with rfl|he
   ·have z:s.heap.objs.size=b:=Option.some.inj hf;exact absurd (Heap.lt_size q) (by rw[z];exact Nat.lt_irrefl _)
   ·exact hb (List.mem_filterMap.mpr ⟨env,he,hf⟩)
  refine wpAny_leaves_madeW (s:={s1 with heap:=h'}) (h:=s1.heap) (base:=hideAll s1.heap ((envOfC qual scope s.heap.objs.size f cd::outer).filterMap (·.frame))) (L:=s.heap.objs.size) QZ rfl (fun b o q=>of_hideAll _ q) (funFrames_hide u9 n6) hx fun h2 t x1 x2 x3 x4=>?_
  have bs:Un (n5 outer) [] H H1 s.heap s1.heap:=I.base;have kB:∀b o,s.heap.get? b=some o→H b=none→b∉n5 outer→(hideAll s1.heap ((envOfC qual scope s.heap.objs.size f cd::outer).filterMap (·.frame))).get? b=some o:=fun b o q hn hb=>
   hideAll_get _ (bs.keep b o q hn hb Zu) (zM b o q hb)
  have hB:lr P w H1 (hideAll s1.heap ((envOfC qual scope s.heap.objs.size f cd::outer).filterMap (·.frame))):=I.bX.hide AQ;refine⟨e,cls, .ref t,_,H1,rfl,I.os,I.bare,x1,?_,hB,kB,fun b o q hb=>?_,hE⟩
  rotate_left
  ·obtain⟨o',e1⟩:=bs.there b o q Zu;exact⟨o',hideAll_get _ e1 (zM b o q hb)⟩
  refine⟨fun b o q hn hb _=>x1.1 b o (kB b o q hn hb),fun b o q hn hb _=>?_,fun b o q hn _=>bs.free b o q hn Zu,fun b o q _=>?_,bs.cD,bs.n9,bs.rG⟩
  ·obtain⟨sl,e1⟩:=bs.slot b o q hn hb Zu;have Ie:s1.heap.FunFrames base outer:=u9.2.2;obtain⟨_,o2,e2,Gs⟩:=Ie.mem hb;rw[e1]at e2;cases e2;obtain⟨xQ,e3⟩:=x4 b _ (hx.keeps _ _ e1) Gs;exact⟨xQ,e3⟩
  ·cases q1:H1 b with
   |some u=>
    obtain⟨oo,z⟩:=zL (hB b u q1);exact⟨oo,x1.1 b oo z⟩
   |none=>
    cases q0:H b with
    |none=>
     by_cases hb:b∈n5 outer
     ·obtain⟨sl,e1⟩:=bs.slot b o q q0 hb Zu;have Ie:s1.heap.FunFrames base outer:=u9.2.2;obtain⟨_,o2,e2,Gs⟩:=Ie.mem hb;rw[e1]at e2;cases e2;obtain⟨xQ,e3⟩:=x4 b _ (hx.keeps _ _ e1) Gs;exact⟨_,e3⟩
     ·exact⟨o,x1.1 b o (kB b o q q0 hb)⟩
    |some u=>
     obtain⟨o',e1⟩:=bs.there b o q Zu;by_cases hb:b∈n5 outer
     ·have Ie:s1.heap.FunFrames base outer:=u9.2.2;obtain⟨_,o2,e2,Gs⟩:=Ie.mem hb;obtain⟨xQ,e3⟩:=x4 b _ (hx.keeps _ _ e2) Gs;exact⟨_,e3⟩
     ·exact⟨o',x1.1 b o' (hideAll_get _ e1 (zM b o q hb))⟩
 ·rintro pins σ H1 s1 e s2 I ⟨ea,cls,a0,B,H',rfl,os,bare,O2,un,hB,kB,tB,hE⟩;have QZ:(A.deeper (envOfC qual scope s.heap.objs.size f cd)).frames=some (envOfC qual scope s.heap.objs.size f cd::outer):=I.ok.frames;show wpAny (model P w) (A.deeper (envOfC qual scope s.heap.objs.size f cd)) (leaving (envOfC qual scope s.heap.objs.size f cd) (.ref ea)) (fun _ vV=>cV P w outer H s E (.ref ea) vV) (fun e' vV=>cV P w outer H s E e' vV) s2;have O2:Heap.FlyingW B (envOfC qual scope s.heap.objs.size f cd::outer) ea cls a0 s2.heap:=O2;have un:Un (n5 (envOfC qual scope s.heap.objs.size f cd::outer)) [] H1 H' s1.heap s2.heap:=un;have kB:∀b o,s1.heap.get? b=some o→H1 b=none→b∉n5 (envOfC qual scope s.heap.objs.size f cd::outer)→B.get? b=some o:=kB;have zM:∀b o,s.heap.get? b=some o→b∉n5 outer→b∉n5 (envOfC qual scope s.heap.objs.size f cd::outer):=fun b o q hb hm=>by
   obtain⟨env,he,hf⟩:=List.mem_filterMap.mp hm;rcases List.mem_cons.mp he with rfl|he
   ·have z:s.heap.objs.size=b:=Option.some.inj hf;exact absurd (Heap.lt_size q) (by rw[z];exact Nat.lt_irrefl _)
   ·exact hb (List.mem_filterMap.mpr ⟨env,he,hf⟩)
  have Q0:∀b,b∈n5 outer→b∈n5 (envOfC qual scope s.heap.objs.size f cd::outer):=fun b hb=>by
   obtain⟨env,he,hf⟩:=List.mem_filterMap.mp hb;exact List.mem_filterMap.mpr ⟨env,List.mem_cons_of_mem _ he,hf⟩
  have bs:Un (n5 outer) [] H H1 s.heap s1.heap:=I.base;refine wpAny_leaves_onW (L:=s.heap.objs.size) QZ rfl O2 fun h2 x1 x4=>?_
  have TK:∀b o,s.heap.get? b=some o→H b=none→b∉n5 outer→B.get? b=some o:=fun b o q hn hb=>kB b o (bs.keep b o q hn hb Zu) (bs.free b o q hn Zu) (zM b o q hb)
  have Ie:s2.heap.FunFrames B outer:=O2.2.2.1.2.2;refine⟨ea,cls,a0,B,H',rfl,os.trans I.os,bare,x1,?_,hB,TK,fun b o q hb=>?_,hE⟩
  rotate_left
  ·obtain⟨o',e1⟩:=bs.there b o q Zu;exact tB b o' e1 (zM b o q hb)
  refine⟨fun b o q hn hb _=>x1.1 b o (TK b o q hn hb),fun b o q hn hb _=>?_,fun b o q hn _=>?_,fun b o q _=>?_,fun b xs q=>un.cD b xs (bs.cD b xs q),fun b o u q=>un.n9 b o u (bs.n9 b o u q),fun b ps q=>?_⟩
  ·obtain⟨sl,e1⟩:=bs.slot b o q hn hb Zu;obtain⟨Yr,e2⟩:=un.slot b _ e1 (bs.free b o q hn Zu) (Q0 b hb) (ZD);obtain⟨_,o2,e3,Gs⟩:=Ie.mem hb;rw[e2]at e3;cases e3;obtain⟨xQ,e4⟩:=x4 b _ e2 Gs;exact⟨xQ,e4⟩
  ·by_cases hb:b∈n5 outer
   ·obtain⟨sl,e1⟩:=bs.slot b o q hn hb Zu;exact un.free b _ e1 (bs.free b o q hn Zu) (ZD)
   ·exact un.free b o (bs.keep b o q hn hb Zu) (bs.free b o q hn Zu) (ZD)
  ·obtain⟨o',e1⟩:=bs.there b o q Zu;obtain⟨o2,e2⟩:=un.there b o' e1 Zu;by_cases hb:b∈n5 outer
   ·obtain⟨_,o3,e3,Gs⟩:=Ie.mem hb;obtain⟨xQ,e4⟩:=x4 b _ e3 Gs;exact⟨_,e4⟩
   ·obtain⟨o3,e3⟩:=tB b o' e1 (zM b o q hb);exact⟨o3,x1.1 b o3 e3⟩
  ·obtain⟨more,z⟩:=bs.rG b ps q;obtain⟨Nf,z2⟩:=un.rG b _ z;exact⟨more++Nf,by rw[z2,Array.append_assoc]⟩
end
end L2
namespace L2
open PySem PySem.Spec PyProof.Rows PySem.W PySem.Calls Builtin Builtin.ObjectAttr Builtin.Getset_descriptor
section
variable{prog:Program}{w:World}{A:Around}{E:Value→Shared→Prop}{K:Frag}{x C:Addr}{o:Obj}{hh:Heap}{g:Array GenState}{d:Drawn}{t:Nat}{os:OsState}
end
structure Ng(K:Frag)(C:Addr):Prop where
 ex:excIn K C [.type "ValueError", .type "Exception", .type "BaseException", .type "object"] "ValueError.__new__"=true
 cl:findIn K (.ref C) "__class__"=some (some (.builtin "object.__class__"))
 ob:mroIn K C (.type "object")=some true
 be:mroIn K C (.type "BaseException")=some true
 ga:findIn K (.ref C) "__getattribute__"=some (some (.builtin "BaseException.__getattribute__"))
 gn:findIn K (.ref C) "__getattr__"=some none
 tu:instIn K (.ref C) (.type "tuple")=some false
 kp:keepIn K (.ref C)=true
end L2
namespace L2
open PySem PySem.Spec PyProof.Rows PySem.W PySem.Calls
theorem Gu{K:Frag}{h:Heap}{C:Addr}{TL:List Value}{newId:String}(X:K.In h)(q:excIn K C TL newId=true):
  ∃bm N nm qn bs hdct sn sub ab col dd k0 k1 k2 k3 k5 mN,h.get? C=some (excClassObj nm qn C N bs bm hdct sn sub ab col dd k0 k1 k2 k3 k5 newId)∧h.Ns N mN∧mN "__init__"=none∧OwnTail h TL bm:=by
 unfold excIn at q;split at q
 ·rename_i dd cd sl ho
  split at q
  ·rename_i C' bm k0 k1 k2 k3 n k5 hm hs
   simp only[Bool.and_eq_true,beq_iff_eq,Bool.not_eq_true']at q;obtain⟨⟨⟨⟨⟨rfl,rfl⟩,Nh⟩,ht⟩,bX⟩,O3⟩:=q;obtain⟨nm,bs,mro,ns,qn,hd,sn,sub,ab,col,del⟩:=cd;dsimp only at hm Nh bX O3;subst hm Nh;have Q2:sl=#[k0,k1,k2,k3,some (.builtin n),k5]:=by
    obtain⟨l⟩:=sl;simp only at hs;rw[hs]
   subst Q2;exact⟨bm,ns,nm,qn,bs,hd,sn,sub,ab,col,dd,k0,k1,k2,k3,k5,_,X _ _ ho, .of_isNs (isNs_of_in X bX),nsMap_none_of_in X bX O3,tail_of_in X ht⟩
  ·cases q
 ·cases q
section
variable{X:Cx}{x:Str}{np eD pos:Pos}{e:Expr}{es:List Expr}{t:TA}{C:Addr}{E:St→XK}
def J3(C:Addr)(E:St→XK)(t:TA):TS:=fun _ σ H=>t σ H fun vs H1=>vs.length≤sizeLine∧E σ (.ref C) none H1
theorem i5(hX:O1 X E)(hc:X.calm=true)(hg:Gl X x)(hm:X.mg x=some (.ref C))(c:Ng X.K C)(ha:PA X (e::es) t)(vU:(x==("__debug__":Str))=false:=by decide)
  (he:starEach (e::es) X.env=(false,eval e X.env)::starEach es X.env:=by rfl) (rh:(backTo eD (starEach es X.env)).any (·.1)=false:=by rfl):
  PS X (.Raise (some (.Call (.Name x np) (e::es) [] eD)) none pos) (J3 C E t):=by
 intro pins s σ H D I h;obtain⟨bm,N,nm,qn,bs,hdct,sn,sub,ab,col,dd,k0,k1,k2,k3,k5,mN,hC,hN,O3,T⟩:=Gu I.ok.mod.LJ c.ex;refine wpAny_Raise_call_subT (C:=C) (nm:=nm) (q:=qn) (N:=N) (bs:=bs) (bm:=bm) (hdct:=hdct) (sn:=sn) (sub:=sub) (ab:=ab) (col:=col) (dd:=dd) (k0:=k0) (k1:=k1) (k2:=k2) (k3:=k3) (k5:=k5)
  F.excBase_ValueError (mN:=mN) (T.hasType F.excBase_ValueError.hasBase) (I.ok.hd hc) (by rw[he];show(false||(backTo eD (starEach es X.env)).any (·.1))=false;rw[rh];rfl) O3 (n_ I hg hm ⟨rfl,?_⟩ vU)
 have hq:=cH (ha eD pins s σ H _ I h) fun us s2 ⟨vs,H2,I2,r2,q2⟩=>show us.length≤sizeLine∧(∀b o,X.base.get? b=some o→s2.heap.get? b=some o)∧∀h' e,Heap.MadeExcOf s2.heap h' e (.ref C) us→X.xe (.ref e) {s2 with heap:=h'}from
  ⟨by rw[←r2.length];exact q2.1,I2.bk,fun h' e hx=>hX.raise pins σ H2 s2 h' e (.ref C) us I2 hx q2.2⟩
 rw[he]at hq⊢;exact evalArgs_plain (wpAny_mono hq (fun vs s2 h2=>⟨rfl,h2.1,h2.2.1 _ _ hC,hN.keeps h2.2.1,T.keeps h2.2.1,h2.2.2⟩) fun _ _ y=>y)
end
section
variable{X:Cx}{e v1 v2:Expr}{es:List Expr}{te:TE}{pos:Pos}
def Q3(te:TE):TE:=fun σ H Q=>te σ H fun x H1=>(∃y,x= .str y∧y.length≤sizeLine∧Q (.str y) H1)∨∃i:Int,x= .int i∧i.natAbs.log2<1920∧Q (.str (toString i)) H1
theorem qg(h:PE X e te):PE X (.FormattedValue e (-1) none pos) (Q3 te):=by
 intro pins s σ H Q I hq;refine FormattedValue_plain (cH (h pins s σ H _ I hq) fun u s1 ⟨x,H1,I1,r1,q1⟩=>?_);rcases q1 with⟨y,rfl,hy,q⟩|⟨i,rfl,hi,q⟩
 ·obtain⟨t,rfl⟩:=r1;exact formatField_str (fun t' tk=>⟨.str y,H1,I1.tok _,⟨_,rfl⟩,q⟩) hy
 ·obtain⟨t,rfl⟩:=r1;exact formatField_int_small hi ⟨.str (toString i),H1,I1.tok _,⟨_,rfl⟩,q⟩
abbrev TJ:=Str→TE
def PJ(X:Cx)(es:List Expr)(t:TJ):Prop:=
 ∀(acc:Str)(pins:List (Addr×Obj))(s:Shared)(σ:St)(H:Hp)(Q:VK),Inv X pins σ H s→t acc σ H Q→wpAny (model X.prog X.w) X.A (joinParts acc (evalEach es X.env)) (EP X pins σ Q) X.xe s
def Ni:TJ:=fun acc _ H Q=>acc.length≤sizeLine∧Q (.str acc) H
def J4(te:TE)(t:TJ):TJ:=fun acc σ H Q=>te σ H fun x H1=>∃y,x= .str y∧(acc++y).length≤sizeLine∧t (acc++y) σ H1 Q
theorem v_:PJ X [] Ni:=fun acc _ s σ H Q I h=>joinParts_nil ⟨.str acc,H,I.tok _,⟨_,rfl⟩,h.2⟩ h.1
theorem fq{t:TJ}(h1:PE X e te)(h2:PJ X es t):PJ X (e::es) (J4 te t):=by
 intro acc pins s σ H Q I h;refine joinParts_cons (cH (h1 pins s σ H _ I h) fun u s1 ⟨x,H1,I1,r1,y,e,hl,q⟩=>?_);subst e;obtain⟨tk,rfl⟩:=r1;exact⟨hl,h2 _ pins s1 σ H1 Q I1 q⟩
theorem ma{t:TJ}(h:PJ X (v1::v2::es) t):PE X (.JoinedStr (v1::v2::es) pos) (t Str.empty):=fun pins s σ H Q I hq=>JoinedStr_many (h Str.empty pins s σ H Q I hq)
end
abbrev Cx.Nj(X:Cx)(e:Addr):Cx:={X with A:=X.A.mark (some (.ref e)),calm:=false,xe:=fun _ _=>False}
section
variable{X:Cx}{pins:List (Addr×Obj)}{σ:St}{H:Hp}{s:Shared}{ea C:Addr}{B:Heap}{a0:Value}
end
abbrev TH:=Addr→TS
def Ends.drop(D:Ends)(i:Nat):Ends:={nx:=fun σ H=>D.nx (σ.set i none) H,rt:=D.rt,bk:=fun σ H=>D.bk (σ.set i none) H,ct:=fun σ H=>D.ct (σ.set i none) H}
section
variable{X:Cx}{x n:Str}{np pos:Pos}{b0:Stmt}{Nj:List Stmt}{rest:List ExceptHandler}{ts:TS}{tr:TH}{Dc:Addr}{i:Nat}
end
def fO(env:Env):List (Str×NameKind)→List (Str×Addr)→List (Str×Addr)
 |[],acc=>acc
 |(n,k)::r,acc=>if k= .free then fO env r ((n,(env.cells.lookup n).getD 0)::acc)else fO env r acc
theorem wb{env:Env}{scope:Scope}(h:∀x∈scope.names,x.2= .free→∃c,env.cells.lookup x.1=some c):closureFor scope env=pure (fO env scope.names []):=by
 unfold closureFor
 suffices H:∀(l:List (Str×NameKind))(acc:List (Str×Addr)),(∀x∈l,x.2= .free→∃c,env.cells.lookup x.1=some c)→
   (forIn l acc fun(x:Str×NameKind)(cs:List (Str×Addr))=>if (x.2==NameKind.free)=true then do let c←cellOf env x.1;pure (ForInStep.yield ((x.1,c)::cs))else pure (ForInStep.yield cs):Sem (List (Str×Addr)))=pure (fO env l acc) by
  have:=H scope.names [] h;simpa using this
 intro l
 induction l with
 |nil=>intro acc _;rfl
 |cons x r ih=>
  intro acc hl;obtain⟨n,k⟩:=x;rw[List.forIn_cons];by_cases hk:k= .free
  ·subst hk;obtain⟨c,hc⟩:=hl (n, .free) List.mem_cons_self rfl;have Jv:env.cells.lookup n=some c:=hc;simp only[beq_self_eq_true,if_true,cellOf,Jv,fO,Option.getD_some];show(pure _>>=_)=_;rw[pure_bind];exact ih _ fun y hy=>hl y (List.mem_cons_of_mem _ hy)
  ·have hb:(k==NameKind.free)=false:=by simpa using hk
   simp only[hb,Bool.false_eq_true,if_false,fO,hk];rw[pure_bind];exact ih _ fun y hy=>hl y (List.mem_cons_of_mem _ hy)
theorem j6{env:Env}{x:Str}{c:Addr}:∀{l:List (Str×NameKind)}{acc:List (Str×Addr)},(∀y∈l,y.2= .free→∃c,env.cells.lookup y.1=some c)→
  (∀y d,acc.lookup y=some d→env.cells.lookup y=some d)→(fO env l acc).lookup x=some c→env.cells.lookup x=some c
 |[],acc,_,ha,h=>ha x c h
 |(n,k)::r,acc,hl,ha,h=>by
  unfold fO at h;have hr:∀y∈r,y.2= .free→∃c,env.cells.lookup y.1=some c:=fun y hy=>hl y (List.mem_cons_of_mem _ hy)
  split at h
  ·rename_i hk
   obtain⟨d,hd⟩:=hl (n,k) List.mem_cons_self hk;refine j6 hr (fun y e he=>?_) h;rw[List.lookup_cons]at he;split at he
   ·rename_i q
    have q':y=n:=by simpa using q
    subst q';have LK:env.cells.lookup y=some d:=hd;rw[LK,Option.getD_some]at he;cases he;exact LK
   ·exact ha y e he
  ·exact j6 hr ha h
theorem oB{env:Env}{x:Str}:∀{l:List (Str×NameKind)}{acc:List (Str×Addr)},((x,NameKind.free)∈l∨∃c,acc.lookup x=some c)→∃c,(fO env l acc).lookup x=some c
 |[],acc,h=>by
  rcases h with h|h
  ·simp at h
  ·exact h
 |(n,k)::r,acc,h=>by
  unfold fO;split
  ·rename_i hk
   refine oB ?_;rcases h with h|⟨c,h⟩
   ·rcases List.mem_cons.mp h with e|e
    ·injection e with e1 e2;subst e1;exact .inr ⟨(env.cells.lookup x).getD 0,by simp[List.lookup_cons]⟩
    ·exact .inl e
   ·by_cases q:x=n
    ·subst q;exact .inr ⟨(env.cells.lookup x).getD 0,by simp[List.lookup_cons]⟩
    ·refine .inr ⟨c,?_⟩;rw[List.lookup_cons];have:(x==n)=false:=by simpa using q
     rw[this];exact h
  ·rename_i hk
   refine oB ?_;rcases h with h|h
   ·rcases List.mem_cons.mp h with e|e
    ·injection e with e1 e2;exact absurd e2.symm hk
    ·exact .inl e
   ·exact .inr h
theorem oC{env:Env}{x:Str}:∀{names:List (Str×NameKind)},names.lookup x=some .free→
  (names.map fun(n,k)=>if (k==NameKind.free&&env.scope.kind== .function&&env.kindOf n==some .cell)then(n,NameKind.cell)else(n,k)).lookup x=some .cell∨
  (names.map fun(n,k)=>if (k==NameKind.free&&env.scope.kind== .function&&env.kindOf n==some .cell)then(n,NameKind.cell)else(n,k)).lookup x=some .free
 |[],h=>by simp at h
 |(n,k)::r,h=>by
  have ih:=@oC env x r;show List.lookup x ((if (k==NameKind.free&&env.scope.kind== .function&&env.kindOf n==some .cell)=true then(n,NameKind.cell)else(n,k))::_)=_∨List.lookup x ((if (k==NameKind.free&&env.scope.kind== .function&&env.kindOf n==some .cell)=true then(n,NameKind.cell)else(n,k))::_)=_;rw[List.lookup_cons]at h;by_cases hc:(k==NameKind.free&&env.scope.kind== .function&&env.kindOf n==some .cell)=true
  ·rw[Zp hc,List.lookup_cons];cases hx:x==n with
   |true=>exact .inl rfl
   |false=>rw[hx]at h;exact ih h
  ·rw[Zm hc,List.lookup_cons];cases hx:x==n with
   |true=>rw[hx]at h;exact .inr h
   |false=>rw[hx]at h;exact ih h
theorem oE{env:Env}{x:Str}:∀{names:List (Str×NameKind)},(∀y∈names,y.2≠ .cell)→
  ((names.map fun(n,k)=>if (k==NameKind.free&&env.scope.kind== .function&&env.kindOf n==some .cell)then(n,NameKind.cell)else(n,k)).lookup x=some .cell∨
  (names.map fun(n,k)=>if (k==NameKind.free&&env.scope.kind== .function&&env.kindOf n==some .cell)then(n,NameKind.cell)else(n,k)).lookup x=some .free)→(x,NameKind.free)∈names
 |[],_,h=>by simp at h
 |(n,k)::r,hc,h=>by
  have ih:=@oE env x r fun y hy=>hc y (List.mem_cons_of_mem _ hy)
  have h2:List.lookup x ((if (k==NameKind.free&&env.scope.kind== .function&&env.kindOf n==some .cell)=true then(n,NameKind.cell)else(n,k))::_)=_∨List.lookup x ((if (k==NameKind.free&&env.scope.kind== .function&&env.kindOf n==some .cell)=true then(n,NameKind.cell)else(n,k))::_)=_:=h;clear h;by_cases hq:(k==NameKind.free&&env.scope.kind== .function&&env.kindOf n==some .cell)=true
  ·rw[Zp hq,List.lookup_cons]at h2;cases hx:x==n with
   |true=>
    have e:x=n:=by simpa using hx
    subst e;have hk:k= .free:=by
     rw[Bool.and_eq_true,Bool.and_eq_true]at hq;simpa using hq.1.1
    subst hk;exact List.mem_cons_self
   |false=>rw[hx]at h2;exact List.mem_cons_of_mem _ (ih h2)
  ·rw[Zm hq,List.lookup_cons]at h2;cases hx:x==n with
   |true=>
    rw[hx]at h2;have e:x=n:=by simpa using hx
    subst e;rcases h2 with h|h
    ·have h':some k=some NameKind.cell:=h;exact absurd (Zt h') (hc (x,k) List.mem_cons_self)
    ·have h':some k=some NameKind.free:=h;rw[Zt h'];exact List.mem_cons_self
   |false=>rw[hx]at h2;exact List.mem_cons_of_mem _ (ih h2)
def f9(X:Cx)(scope:Scope)(N:List Str)(dz:Shared)(eU:Hp)(C:Addr)(fp:List Addr)(pn:List (Addr×Obj)):Cx:=
 {X with N:=N,dz:=dz,eU:=eU,env:=compEnvC scope (fO X.env scope.names []) C X.env,outer:=X.stack,ex:=fp,fn:=fun _=>false,pn:=pn,xe:=fun _ _=>False}
structure bB(N:List Str)(sc:Scope)(scope:Scope)(ls:List Str)(js:List Nat)(cs:List Str):Prop where
 kind:scope.kind= .function
 Ig:∀x∈scope.names,x.2≠ .cell
 names:∀x∈scope.names,x.2= .local→scope.names.lookup x.1=some .local
 loc:∀x∈ls,scope.names.lookup x=some .local
 at_:cs=js.filterMap (N[·]?)
 len:cs.length=js.length
 Q4:∀x∈cs,scope.names.lookup x=some .free∧(sc.names.lookup x=some .cell∨sc.names.lookup x=some .free)
 free:∀x∈scope.names,x.2= .free→(sc.names.lookup x.1=some .cell∨sc.names.lookup x.1=some .free)
 nd:(ls++cs).Nodup
section
variable{X:Cx}{pins:List (Addr×Obj)}{σ:St}{H:Hp}{s:Shared}{scope:Scope}{ls cs:List Str}{js:List Nat}{fp:List Addr}
theorem bB.has(S:bB X.N X.env.scope scope ls js cs)(ok:X.Ok):∀x∈scope.names,x.2= .free→∃c,X.env.cells.lookup x.1=some c:=fun x hx hf=>ok.has x.1 (S.free x hx hf)
def lC(ls:List Str)(js:List Nat)(σ:St):St:=ls.map (fun _=>none)++js.map fun j=>(σ[j]?).join
theorem Gv(S:bB X.N X.env.scope scope ls js cs)(I:Inv X pins σ H s)(hf:∀b∈fp,iu X pins H b)(hl:∀b∈fp,b<s.heap.objs.size):(f9 X scope (ls++cs) s H s.heap.objs.size fp (X.pn++pins)).Ok:=by
 have sL:∀{x:Str}{c:Addr},(fO X.env scope.names []).lookup x=some c→X.env.cells.lookup x=some c:=fun{x c} h=>j6 (S.has I.ok) (fun y d h=>by simp at h) h
 refine⟨I.ok.mod,S.kind,I.ok.glob,I.ok.blt,Nat.le_refl _,fun x y c h1 h2=>I.ok.inj x y c (sL h1) (sL h2),fun x h=>oB (.inl (oE S.Ig h)),(fun x c h=>Bool.noConfusion (show false=true from h)),I.ok.hd,I.ok.frames, .inl rfl,fun b hb=>⟨Nat.ne_of_lt (hl b hb),fun x c h=>(hf b hb).2.2.2.2.1 x c (sL h)⟩,
  I.bs,Nat.le_trans I.ok.Jr I.sz,fun b o e hb=>?_,fun b hb hm=>?_,I.stack,I.vQ⟩
 ·rcases(hf b hb).2.2.2.1 with z|z
  ·exact I.ok.Js b o e z
  ·exact absurd (Nat.lt_of_lt_of_le (Heap.lt_size e) I.ok.Jr) (Nat.not_lt.mpr z)
 ·rcases List.mem_cons.mp (I.sq b hm)with z|z
  ·exact(hf b hb).2.1 z
  ·exact(hf b hb).2.2.1 z
theorem D0{h1:Heap}{m:Str→Option Value}(S:bB X.N X.env.scope scope ls js cs)(I:Inv X pins σ H s)(hf:∀b∈fp,iu X pins H b)(hl:∀b∈fp,b<s.heap.objs.size)
  (hn:h1.Ns s.heap.objs.size m) (hk:∀b o,s.heap.get? b=some o→h1.get? b=some o):
  Inv (f9 X scope (ls++cs) s H s.heap.objs.size fp (X.pn++pins)) [] (lC ls js σ) H {s with heap:=h1}:=by
 have sL:∀{x:Str}{c:Addr},(fO X.env scope.names []).lookup x=some c→X.env.cells.lookup x=some c:=fun{x c} h=>j6 (S.has I.ok) (fun y d h=>by simp at h) h
 have len:(lC ls js σ).length=(ls++cs).length:=by
  unfold lC;rw[List.length_append,List.length_append,List.length_map,List.length_map,S.len]
 refine⟨Gv S I hf hl,rfl,I.bare,Un.kept hk,⟨m,hn,fun i x v e1 e2 e3=>?_⟩,fun x c e=>?_,I.bX.fresh (Nat.le_refl _),fun x c e=>I.mO x c (sL e),fun p hp=>?_,I.bX.kept hk,len⟩
 ·have e1:(ls++cs)[i]?=some x:=e1;unfold lC at e2;by_cases hi:i<ls.length
  ·rw[List.getElem?_append_left (by simpa using hi),List.getElem?_map]at e2;cases q:ls[i]? with
   |none=>rw[q]at e2;cases e2
   |some y=>rw[q]at e2;cases e2
  ·have A8:ls.length≤i:=Nat.not_lt.mp hi;rw[List.getElem?_append_right (by simpa using A8),List.getElem?_map,List.length_map]at e2;rw[List.getElem?_append_right A8]at e1;obtain⟨TN,ug⟩:=S.Q4 x (Zk e1);cases q:js[i-ls.length]? with
   |none=>rw[q]at e2;cases e2
   |some j=>
    rw[q]at e2;have e2:(σ[j]?).join=some v:=Zt e2;have eN:X.N[j]?=some x:=by
     have aux:∀(js:List Nat)(cs:List Str)(i:Nat),cs=js.filterMap (X.N[·]?)→cs.length=js.length→∀j x,js[i]?=some j→cs[i]?=some x→X.N[j]?=some x:=by
      intro js
      induction js with
      |nil=>intro cs i _ _ j x hj _;simp at hj
      |cons a r ih=>
       intro cs i he hl j x hj hx;rw[List.filterMap_cons]at he;cases qa:X.N[a]? with
       |none=>
        rw[qa]at he;have hle:=List.length_filterMap_le (X.N[·]?) r;simp only at he;rw[he,List.length_cons]at hl;omega
       |some y=>
        rw[qa]at he;simp only at he;subst he;cases i with
        |zero=>
         simp at hj hx;subst hj hx;exact qa
        |succ i=>exact ih _ i rfl (by simpa using hl) j x (by simpa using hj) (by simpa using hx)
     exact aux js cs _ S.at_ S.len j x q e1
    obtain⟨mX,_,VT⟩:=I.loc;have VU:σ[j]?=some (some v):=by
     cases z:σ[j]? with
     |none=>rw[z]at e2;cases e2
     |some w=>rw[z]at e2;rw[show w=some v from e2]
    obtain⟨u,r,l⟩:=VT j x v eN VU (ug.elim (fun z=> .inr (.inl z)) fun z=> .inr (.inr z));refine⟨u,r,?_⟩;rcases l with⟨z,_⟩|⟨_,c,z1,o,z2,z3⟩
    ·have z:X.env.scope.names.lookup x=some .local:=z;rcases ug with w|w<;>(rw[z]at w;cases w)
    ·refine .inr ⟨oC TN,c,?_,o,hk c o z2,z3⟩;obtain⟨c',Jv⟩:=oB (env:=X.env) (l:=scope.names) (acc:=[]) (x:=x) (.inl (PySem.mem_of_lookup TN));have:=sL Jv;rw[z1]at this;cases this;exact Jv
 ·obtain⟨v,o,z1,z2⟩:=I.cell x c (sL e);exact⟨v,o,hk c o z1,z2⟩
 ·have hp:p∈X.pn++pins:=by simpa[f9]using hp
  obtain⟨e,n,ne,nf,d⟩:=I.pin p hp;refine⟨hk _ _ e,n,Nat.ne_of_lt (Heap.lt_size e),fun hm=>?_,d⟩;rcases List.mem_cons.mp (I.sq p.1 hm)with z|z
  ·exact ne z
  ·exact nf z
end
section
variable{prog:Program}{w:World}{A:Around}{R:Result→Shared→Prop}{s:Shared}
theorem wc{elt target iter:Expr}{ifs:List Expr}{scope:Scope}{pos:Pos}{it acc:Value}{env:Env}(L:Nat→Shared→Prop)
  (turn:∀n s,L n s→wpAny (model prog w) A (pyNext it) (fun r cn=>match r with
   |none=>R (.ok .next) cn
   |some v=>wpAny (model prog w) A (letOwnedTupleGo target it v) (fun _ Ih=>wpAny (model prog w) A (assign target env v) (fun _ p_=>
     wpAny (model prog w) A (forIn ifs true fun c r=>if r=true then do let ok←isTrue c env (eval c env);pure (ForInStep.yield ok)else pure (ForInStep.yield r)) (fun ok B7=>
      if ok=true then wpAny (model prog w) A (eval elt env) (fun x Nk=>
       wpAny (model prog w) A (call (.builtin "list.append") [acc,x]) (fun _ Nl=>∃m,m<n∧L m Nl) (fun _ _=>False) Nk) (fun _ _=>False) B7
      else ∃m,m<n∧L m B7) (fun _ _=>False) p_) (fun _ _=>False) Ih) (fun _ _=>False) cn) (fun _ _=>False) s)
  (n:Nat) (h:L n s):codeAny (model prog w) A (.compLoop (.ListComp elt [⟨target,iter,ifs,0⟩] scope pos) 0 it acc env) R s:=by
 refine codeAny_loop rfl L (fun n s hI=>?_) n h;show wpAny _ A ((compTurn (.ListComp elt [⟨target,iter,ifs,0⟩] scope pos) 0 it acc env).onRaise (fun x=>do noteFrame x env;theTreesLotGoes x)) _ _ s;refine wpAny_noted ?_;rw[compTurn_list];refine wpAny_mono (E:=fun _ _=>False) ?_ (fun _ _ q=>q) fun _ _ z=>False.elim z
 refine wpAny_bind (wpAny_standAt (wpAny_bind (wpAny_mono (turn n s hI) (fun r cn B6=>?_) fun _ _ h'=>h')));cases r with
 |none=>exact wpAny_pure B6
 |some v=>
  refine wpAny_bind (wpAny_mono B6 (fun _ Ih B6=>?_) fun _ _ h'=>h');refine wpAny_bind (wpAny_mono B6 (fun _ p_ DJ=>wpAny_bind (wpAny_mono DJ (fun ok B7 Gg=>?_) fun _ _ h'=>h')) fun _ _ h'=>h');cases ok with
  |false=>exact wpAny_pure ⟨rfl,Gg⟩
  |true=>
   exact wpAny_bind (wpAny_bind (wpAny_mono Gg (fun x Nk Q5=>wpAny_bind (wpAny_mono Q5 (fun _ Nl Q6=>wpAny_pure (wpAny_pure ⟨rfl,Q6⟩)) fun _ _ h'=>h')) fun _ _ h'=>h'))
end
def Nm(X:Cx)(ifs:List Expr)(t:TT):Prop:=
 ∀(pins:List (Addr×Obj))(s:Shared)(σ:St)(H:Hp)(Q:Bool→Hp→Prop),Inv X pins σ H s→t σ H Q→
  wpAny (model X.prog X.w) X.A (forIn ifs true fun c r=>if r=true then do let ok←isTrue c X.env (eval c X.env);pure (ForInStep.yield ok)else pure (ForInStep.yield r)) (TP X pins σ Q) X.xe s
def J5:TT:=fun _ H Q=>Q true H
theorem jo{X:Cx}:Nm X [] J5:=fun _ _ _ H _ I h=>wpAny_tests_nil ⟨H,I,h⟩
theorem we{X:Cx}{c:Expr}{t:TT}(h:PT X c t):Nm X [c] t:=fun pins s σ H Q I hq=>wpAny_tests_one (h pins s σ H Q I hq)
def sM(J:It)(ls:List Str)(js:List Nat)(g:TG)(tt:TT)(te:TE)(σ:St)(H1:Hp)(D:Addr)(Q:VK):Prop:=
 ∃W:Nat→Nat→List V→St→Hp→Prop,(∃m,W 0 m [] (lC ls js σ) (upd H1 D (.lst [])))∧∀i m ys bD H',W i m ys bD H'→
 (J.stop i H'∧Q (.ref D) H')∨(J.go i H'∧∃N:List V→St→Hp→Prop,(∀Ii fZ H2,N Ii fZ H2→∃m',m'<m∧W (i+1) m' Ii fZ H2)∧∀x H2,J.F1 i H' x H2→g x bD H2 fun fZ H3=>tt fZ H3 fun b H4=>
  if b=true then te fZ H4 fun y H5=>H5 D=some (.lst ys)∧ys.length<sizeLine∧N (ys++[y]) fZ (upd H5 D (.lst (ys++[y])))else N ys fZ H4)
def D1(wi:TI)(ls:List Str)(js:List Nat)(g:TG)(tt:TT)(te:TE):TE:=fun σ H Q=>wi σ H fun J H1=>∀D,H1 D=none→sM J ls js g tt te σ H1 D Q
section
variable{X:Cx}{tg iter elt:Expr}{ifs:List Expr}{scope:Scope}{pos:Pos}{wi:TI}{g:TG}{tt:TT}{te:TE}{ls cs:List Str}{js:List Nat}
theorem vo{pins:List (Addr×Obj)}{s:Shared}{σ:St}{H:Hp}{Q:VK}{use:Option (Value→Sem Unit)}{QQ:Value→Shared→Prop}(hc:X.calm=true)(S:bB X.N X.env.scope scope ls js cs)(hi:PI X tg iter wi)
  (hg:∀dz eU C fp pn,PG (f9 X scope (ls++cs) dz eU C fp pn) tg g) (ht:∀dz eU C fp pn,Nm (f9 X scope (ls++cs) dz eU C fp pn) ifs tt) (he:∀dz eU C fp pn,PE (f9 X scope (ls++cs) dz eU C fp pn) elt te)
  (I:Inv X pins σ H s) (h:D1 wi ls js g tt te σ H Q)
  (Q7:∀(D C:Addr)(H':Hp)(s':Shared)(m:Str→Option Value),Inv X pins σ H' s'→Q (.ref D) H'→s'.heap.Ns C m→iu X pins H' C→compPost (model X.prog X.w) X.A X.xe use QQ (.ref D) C (.ok .next) s')
  (hs:∀x,foldedSetIterable iter X.env x=pure x:=by intro _;rfl):
  wpAny (model X.prog X.w) X.A (comprehension (.ListComp elt [⟨tg,iter,ifs,0⟩] scope pos) scope X.env (firstIterPos [⟨tg,iter,ifs,0⟩] pos) (newList []) false (eval iter X.env) use) QQ X.xe s:=by
 refine wpAny_comprehension_free rfl hs (wb (S.has I.ok)) S.kind S.names (cH (hi pins s σ H _ I h) fun v s1 h1=>cH h1 fun QB s2 h2=>?_);obtain⟨it,fp,tn,J,H2,rfl,I2,T,dN,f2,hW⟩:=h2;have TQ:∀b∈fp,b<s2.heap.objs.size:=fun b hb=>by
  obtain⟨o,e,_⟩:=T.obj 0 _ dN b hb;exact Heap.lt_size e
 refine wpAny_newObj_type ?_;have hD:H2 s2.heap.objs.size=none:=I2.bX.fresh (Nat.le_refl _);obtain⟨W,⟨m0,w0⟩,turn⟩:=hW _ hD;have I3:Inv X pins σ (upd H2 s2.heap.objs.size (.lst [])) {s2 with heap:=s2.heap.push {cls:= .type "list",dict:=none,data:= .seq ([]:List Value).toArray}}:=
  I2.laid (t':=s2.toks) (fun b u e=>Zn e) (Nat.le_refl _) ⟨Nat.zero_le _,[],0, .nil,Heap.get?_push_size _ rfl⟩
 have f3:∀b∈fp,iu X pins (upd H2 s2.heap.objs.size (.lst [])) b:=fun b hb=>⟨by rw[ak (Nat.ne_of_lt (TQ b hb))];exact(f2 b hb).1,(f2 b hb).2⟩
 generalize Ys:upd H2 s2.heap.objs.size (.lst [])=H3 at I3 f3 w0;generalize Nn:({s2 with heap:=s2.heap.push {cls:= .type "list",dict:=none,data:= .seq ([]:List Value).toArray}}:Shared)=s3 at I3;have TU:∀b∈fp,b<s3.heap.objs.size:=fun b hb=>by
  rw[←Nn];show b<(s2.heap.push _).objs.size;rw[Heap.size_push];exact Nat.lt_succ_of_lt (TQ b hb)
 have Dz:tn 0 s3.heap:=T.keep 0 _ _ dN fun b hb o e=>by rw[←Nn];exact Zn e
 refine wpAny_newFunctionEnv S.Ig (by intro y hy;simp at hy) (fun h4 OZ Np=>?_) S.kind;have k4:∀b o,s3.heap.get? b=some o→h4.get? b=some o:=fun b o e=>Np.extBut b o (Nat.ne_of_lt (Heap.lt_size e)) (Zn e)
 have I4:=D0 (h1:=h4) S I3 f3 TU OZ k4;have VV:=I4.tok (s3.toks+([]:List (Str×Value)).length);have O4:tn 0 h4:=T.keep 0 _ _ Dz fun b hb o e=>k4 b o e
 show codeAny (model X.prog X.w) X.A (.compStart (.ListComp elt [⟨tg,iter,ifs,0⟩] scope pos) 0 (.ref it) (.ref s2.heap.objs.size) (compEnvC scope (fO X.env scope.names []) s3.heap.objs.size X.env)) (compPost (model X.prog X.w) X.A X.xe use QQ (.ref s2.heap.objs.size) s3.heap.objs.size) _;have ZH:∀{H':Hp},(∀b∈fp,H' b=none)→∀b∈fp,iu (f9 X scope (ls++cs) s3 H3 s3.heap.objs.size fp (X.pn++pins)) [] H' b:=fun{H'} hn b hb=>by
  obtain⟨q1,q2,q3,q4,q5,q6⟩:=f3 b hb;refine⟨hn b hb,Nat.ne_of_lt (TU b hb),fun hm=>?_, .inl hb,fun x c e=>q5 x c (j6 (S.has I.ok) (fun y d z=>by simp at z) e),fun p hp=>q6 p (by simpa[f9]using hp)⟩;rcases List.mem_cons.mp (I3.sq b hm)with z|z
  ·exact q2 z
  ·exact q3 z
 have loop:codeAny (model X.prog X.w) X.A (.compLoop (.ListComp elt [⟨tg,iter,ifs,0⟩] scope pos) 0 (.ref it) (.ref s2.heap.objs.size) (compEnvC scope (fO X.env scope.names []) s3.heap.objs.size X.env)) (compPost (model X.prog X.w) X.A X.xe use QQ (.ref s2.heap.objs.size) s3.heap.objs.size)
   {s3 with heap:=h4,toks:=s3.toks+([]:List (Str×Value)).length}:=by
  refine wc (fun n s'=>∃i bD H',Inv (f9 X scope (ls++cs) s3 H3 s3.heap.objs.size fp (X.pn++pins)) [] bD H' s'∧tn i s'.heap∧(∀b∈fp,H' b=none)∧∃ys,W i n ys bD H') ?_ m0 ⟨0,_,_,VV,O4,fun b hb=>(f3 b hb).1,[],w0⟩;rintro n s5 ⟨i,O5,H5,I5,LO,OU,ys,w5⟩;rcases turn i n ys O5 H5 w5 with⟨stop,qn⟩|⟨go,N,hN,step⟩
  ·refine cH (T.done (f9 X scope (ls++cs) s3 H3 s3.heap.objs.size fp (X.pn++pins)) rfl rfl rfl hc i [] s5 O5 H5 (fun _ _=>False) I5 (ZH OU) LO stop) fun r s6 ⟨hr,I6⟩=>?_
   subst hr;obtain⟨m,hm,_⟩:=id I6.loc;have un:Un (n5 X.stack) fp H3 H5 s3.heap s6.heap:=I6.base;have I7:Inv X pins σ H5 s6:=I3.My (ch:=fp) I6.os un I6.bX I6.bare fun b hb=>by
    obtain⟨q1,q2,q3,q4,q5,q6⟩:=f3 b hb;exact⟨q4,q2,q5,q6⟩
   have fc:iu X pins H5 s3.heap.objs.size:=I3.uo (Nat.le_refl _) I6.free;exact Q7 _ _ H5 s6 m I7 qn hm fc
  ·refine cH (T.item (f9 X scope (ls++cs) s3 H3 s3.heap.objs.size fp (X.pn++pins)) rfl rfl rfl hc i [] s5 O5 H5 (fun _ _=>False) I5 (ZH OU) LO go) fun r s6 ⟨u,hr,h6⟩=>?_
   subst hr;refine cH h6 fun _ s7 ⟨x,H7,I7,r7,y7,Q8,VW⟩=>?_
   have VX:=I7.pinned (ZH VW) (T.obj _ _ Q8);refine cH (hg _ _ _ _ _ _ s7 O5 H7 x u _ VX r7 (step x H7 y7)) fun _ s8 ⟨O6,H8,I8,q8⟩=>?_
   refine cH (ht _ _ _ _ _ _ s8 O6 H8 _ I8 q8) fun b s9 ⟨H9,I9,q9⟩=>?_
   have again:∀{Ii:List V}{bD:St}{H':Hp}{s':Shared},Inv (f9 X scope (ls++cs) s3 H3 s3.heap.objs.size fp (X.pn++pins)) ([]++su fp s7.heap) bD H' s'→N Ii bD H'→
     ∃m,m<n∧∃i bD H',Inv (f9 X scope (ls++cs) s3 H3 s3.heap.objs.size fp (X.pn++pins)) [] bD H' s'∧tn i s'.heap∧(∀b∈fp,H' b=none)∧∃ys,W i m ys bD H':=fun{Ii bD H' s'} I' n'=>by
    obtain⟨m',zN,w'⟩:=hN Ii bD H' n';refine⟨m',zN,i+1,bD,H',I'.lA,T.keep _ _ _ Q8 fun b hb o e=>(I'.pin (b,o) (List.mem_append_right _ (List.mem_append_right _ (gO hb e)))).1,fun b hb=>?_,Ii,w'⟩;obtain⟨o,e,d⟩:=T.obj _ _ Q8 b hb;exact(I'.pin (b,o) (List.mem_append_right _ (List.mem_append_right _ (gO hb e)))).2.1
   cases b with
   |false=>exact again I9 q9
   |true=>
    refine cH (he _ _ _ _ _ _ s9 O6 H9 _ I9 q9) fun u2 VY ⟨y,VZ,V1,V4,V5,hz,V6⟩=>?_
    refine cH (bQ _ VY O6 VZ (.ref s2.heap.objs.size) [y] (.ref s2.heap.objs.size) [u2] (fun _ H'=>N (ys++[y]) O6 H') V1 rfl (.cons V4 .nil) ⟨_,ys,y,rfl,rfl,V5,hz,V6⟩) fun _ Yt ⟨_,Yu,V7,_,V8⟩=>?_
    exact again V7 V8
 exact codeAny_compStart_list loop (T.self _ 0 _ _ _ O4 loop)
theorem oF(hc:X.calm=true)(S:bB X.N X.env.scope scope ls js cs)(hi:PI X tg iter wi)
  (hg:∀dz eU C fp pn,PG (f9 X scope (ls++cs) dz eU C fp pn) tg g) (ht:∀dz eU C fp pn,Nm (f9 X scope (ls++cs) dz eU C fp pn) ifs tt) (he:∀dz eU C fp pn,PE (f9 X scope (ls++cs) dz eU C fp pn) elt te)
  (hs:∀x,foldedSetIterable iter X.env x=pure x:=by intro _;rfl):PE X (.ListComp elt [⟨tg,iter,ifs,0⟩] scope pos) (D1 wi ls js g tt te):=by
 intro pins s σ H Q I h;rw[eval_ListComp];refine vo (use:=none) hc S hi hg ht he I h (fun D C H' s' m I' q hm fc=>⟨m,hm,fun h' Np=>?_⟩) hs;obtain⟨q1,q2,q3,q4,q5,q6⟩:=fc;exact⟨.ref D,H',I'.turned (t':=s'.toks) (fun b o hb e=>Np.extBut b o hb e) q1 (Ne.symm (Ne.symm q2)) q4 q5 q6,rfl,q⟩
theorem me{x:Str}{i:Nat}{pos' Nq:Pos}(hc:X.calm=true)(hN:X.N.Nodup)(A8:X.N[i]?=some x)(hx:X.env.scope.names.lookup x=some .local)(S:bB X.N X.env.scope scope ls js cs)(hi:PI X tg iter wi)
  (hg:∀dz eU C fp pn,PG (f9 X scope (ls++cs) dz eU C fp pn) tg g) (ht:∀dz eU C fp pn,Nm (f9 X scope (ls++cs) dz eU C fp pn) ifs tt) (he:∀dz eU C fp pn,PE (f9 X scope (ls++cs) dz eU C fp pn) elt te)
  (Q9:swapsWith (.ListComp elt [⟨tg,iter,ifs,0⟩] scope pos) (some (.Name x pos')) Nq.line X.env=pure true:=by rfl)
  (hs:∀x,foldedSetIterable iter X.env x=pure x:=by intro _;rfl):PS X (.Assign [.Name x pos'] (.ListComp elt [⟨tg,iter,ifs,0⟩] scope pos) Nq) (JD (D1 wi ls js g tt te) (AS i)):=by
 intro pins s σ H D I h;rw[exec_Assign_Name_used _ _ _ _ Q9];refine wpAny_bind (wpAny_standAt (wpAny_bind ?_));show wpAny _ X.A (do let _←comprehension (.ListComp elt [⟨tg,iter,ifs,0⟩] scope pos) scope X.env (firstIterPos [⟨tg,iter,ifs,0⟩] pos) (newList []) false (eval iter X.env) (some (assign (.Name x pos') X.env))) _ _ s;refine wpAny_bind (wpAny_mono (vo (use:=some (assign (.Name x pos') X.env)) (QQ:=fun _ s'=>SP X pins D .next s') hc S hi hg ht he I h (fun Dl C H' s' m I' q hm fc=>?_) hs) (fun _ s' hq=>wpAny_pure (wpAny_pure hq)) fun _ _ e=>e);show wpAny _ X.A (assign (.Name x pos') X.env (.ref Dl)) _ _ _;obtain⟨q1,q2,q3,q4,q5,q6⟩:=fc;refine wpAny_assign_Name (u7 (v:= .ref Dl) I' hN A8 (.inl hx) rfl (fun s2 I2 ⟨a,Np,ha⟩=>?_) (.inr hx));have eR:C≠a:=by
  rcases ha with rfl|ha
  ·exact q2
  ·exact fun z=>q5 x a ha z.symm
 refine⟨m,hm.sameBut Np eR,fun h' Q_=>?_⟩;exact⟨_,H',I2.turned (t':=s2.toks) (fun b o hb e=>Q_.extBut b o hb e) q1 q2 q4 q5 q6,q⟩
end
def O7(z:Str):It:=⟨fun i _=>i<z.length,fun i H x H'=>H'=H∧∃c,z.cps.toList[i]?=some c∧x= .str ⟨#[c]⟩,fun i _=>z.length≤i⟩
theorem D5{P:Program}{w:World}{K:Frag}{tg:Expr}{it:Addr}{z:Str}{ty:String}{t:Tok}(Dd:ty="str_ascii_iterator"∨ty="str_iterator"):Turn P w K tg (O7 z) [it] it (fun i h=>h.IsStrIter it ty z t i) where
 mem:=ZD
 obj:=fun i h st b hb=>by
  have e:b=it:=by simpa using hb
  subst e;obtain⟨o,e,c,d⟩:=st;exact⟨o,e,fun v z=>by rw[d]at z;cases z⟩
 keep:=fun i h h' st k=>let ⟨o,ho,r⟩:=st;⟨o,k it (ZD) o ho,r⟩
 item:=by
  intro X hP hw hK hc i pins s σ H E I hf st hg;subst hP hw hK;obtain⟨f0,f1,f2,f3,f4,f5⟩:=hf it (ZD);have hg:i<z.cps.size:=hg;have key:∀h',h'.IsStrIter it ty z t (i+1)→Heap.SameBut it s.heap h'→∃u,some (Value.str ⟨#[z.cps[i]]⟩ s.toks)=some u∧
    wpAny (model X.prog X.w) X.A (letOwnedTupleGo tg (.ref it) u) (fun _ s2=>∃x H',Inv X pins σ H' s2∧RelV x u∧(O7 z).F1 i H x H'∧s2.heap.IsStrIter it ty z t (i+1)∧∀b∈[it],H' b=none) E {s with heap:=h',toks:=s.toks+1}:=fun h' aT sb=>by
   have I1:Inv X pins σ H {s with heap:=h',toks:=s.toks+1}:=I.turned (fun b o hb e=>(sb.2 b hb).trans e) f0 f1 f3 f4 f5;obtain⟨o,e,c,d⟩:=id aT;refine⟨_,rfl,yd (s:={s with heap:=h',toks:=s.toks+1}) e c d (by rcases Dd with rfl|rfl<;>decide) ⟨.str ⟨#[z.cps[i]]⟩,H,I1,⟨_,rfl⟩,⟨rfl,z.cps[i],by simp[hg],rfl⟩,aT,fun b hb=>(hf b hb).1⟩⟩
  rcases Dd with rfl|rfl
  ·exact wpAny_pyNext_ascii_item st (c:=z.cps[i]) (by simp[hg]) key
  ·exact wpAny_pyNext_wide_item st (c:=z.cps[i]) (by simp[hg]) key
 done:=by
  intro X hP hw hK hc i pins s σ H E I hf st hg;subst hP hw hK;obtain⟨f0,f1,f2,f3,f4,f5⟩:=hf it (ZD);have hg:z.cps.size≤i:=hg;rcases Dd with rfl|rfl
  ·exact wpAny_pyNext_ascii_end (I.ok.hd hc) st (by simp[hg]) fun h' eb=>⟨rfl,I.turned (t':=s.toks) (fun b o hb e=>eb b o hb e) f0 f1 f3 f4 f5⟩
  ·exact wpAny_pyNext_wide_end (I.ok.hd hc) st (by simp[hg]) fun h' eb=>⟨rfl,I.turned (t':=s.toks) (fun b o hb e=>eb b o hb e) f0 f1 f3 f4 f5⟩
 self:=fun _ _ _ _ _ st h=>by
  rcases Dd with rfl|rfl
  ·exact wpAny_pyIter_striter_ascii st h
  ·exact wpAny_pyIter_striter_wide st h
section
variable{X:Cx}{tg:Expr}
def Ra(tl:TE):TI:=fun σ H R=>tl σ H fun x H1=>∃z,x= .str z∧R (O7 z) H1
theorem J6{l:Expr}{tl:TE}(hl:PE X l tl):PI X tg l (Ra tl):=by
 intro pins s σ H R I h;refine cH (hl pins s σ H _ I h) fun v s1 ⟨x,H1,I1,r1,q1⟩=>?_
 obtain⟨z,e,q⟩:=q1;subst e;obtain⟨t,rfl⟩:=r1;refine wpAny_pyIter_strU ?_;refine⟨s1.heap.objs.size,[s1.heap.objs.size],_,_,H1,rfl,I1.kept (t':=s1.toks) fun b o e=>Zn e,D5 (ty:=strIterType z) (t:=t) (by unfold strIterType;split<;>simp),⟨_,Heap.get?_push_size _ rfl,rfl,rfl⟩,fun b hb=>?_,q⟩;have e:b=s1.heap.objs.size:=by simpa using hb
 subst e;exact I1.uo (Nat.le_refl _) (I1.bX.fresh (Nat.le_refl _))
end
theorem oG{J:It}{n:Nat}{ls:List Str}{js:List Nat}{g:TG}{tt:TT}{te:TE}{σ:St}{H1:Hp}{D:Addr}{Q:VK}(Pv:Nat→List V→St→Hp→Prop)
  (h0:Pv 0 [] (lC ls js σ) (upd H1 D (.lst []))) (Gx:∀i ys σ H,i<n→Pv i ys σ H→J.go i H) (u9:∀ys σ H,Pv n ys σ H→J.stop n H)
  (hs:∀i ys σ H x H2,i<n→Pv i ys σ H→J.F1 i H x H2→g x σ H2 fun fZ H3=>tt fZ H3 fun b H4=>if b=true then te fZ H4 fun y H5=>H5 D=some (.lst ys)∧ys.length<sizeLine∧Pv (i+1) (ys++[y]) fZ (upd H5 D (.lst (ys++[y])))else Pv (i+1) ys fZ H4)
  (hd:∀ys σ H,Pv n ys σ H→Q (.ref D) H):
  sM J ls js g tt te σ H1 D Q:=by
 refine⟨fun i m ys σ H=>m=n-i∧i≤n∧Pv i ys σ H,⟨n,ZD,Nat.zero_le _,h0⟩,?_⟩;rintro i m ys σ H ⟨rfl,hi,p⟩;by_cases hZ:i<n
 ·exact .inr ⟨Gx i ys σ H hZ p,Pv (i+1),fun Ii fZ H2 p'=>⟨n-(i+1),Zz,rfl,hZ,p'⟩,fun x H2 y=>hs i ys σ H x H2 hZ p y⟩
 ·have e:i=n:=Zz;subst e;exact .inl ⟨u9 ys σ H p,hd ys σ H p⟩
theorem iU{K:Frag}{a:Addr}{xs:List V}{ls:List Str}{js:List Nat}{g:TG}{tt:TT}{te:TE}{σ:St}{H1:Hp}{D:Addr}{Q:VK}(Pv:Nat→List V→St→Hp→Prop)
  (h0:Pv 0 [] (lC ls js σ) (upd H1 D (.lst []))) (hl:∀i ys σ H,i≤xs.length→Pv i ys σ H→iC K H a xs)
  (hs:∀i x ys σ H,xs[i]?=some x→Pv i ys σ H→g x σ H fun fZ H3=>tt fZ H3 fun b H4=>if b=true then te fZ H4 fun y H5=>H5 D=some (.lst ys)∧ys.length<sizeLine∧Pv (i+1) (ys++[y]) fZ (upd H5 D (.lst (ys++[y])))else Pv (i+1) ys fZ H4)
  (hd:∀ys σ H,Pv xs.length ys σ H→Q (.ref D) H):
  sM (LM K a) ls js g tt te σ H1 D Q:=
 oG (n:=xs.length) Pv h0 (fun i ys σ H hi p=>⟨xs,xs[i],hl i ys σ H (Nat.le_of_lt hi) p,by simp[hi]⟩) (fun ys σ H p=>⟨xs,hl _ ys σ H (Nat.le_refl _) p,Nat.le_refl _⟩)
  (fun i ys σ H x H2 hi p y=>by
   obtain⟨e,y⟩:=y;subst e;exact hs i x ys σ _ (y xs (hl i ys σ _ (Nat.le_of_lt hi) p)) p) hd
theorem zO{lo:Int}{n:Nat}{ls:List Str}{js:List Nat}{g:TG}{tt:TT}{te:TE}{σ:St}{H1:Hp}{D:Addr}{Q:VK}(Pv:Nat→List V→St→Hp→Prop)
  (h0:Pv 0 [] (lC ls js σ) (upd H1 D (.lst [])))
  (hs:∀i ys σ H,i<n→Pv i ys σ H→g (.int (lo+i)) σ H fun fZ H3=>tt fZ H3 fun b H4=>if b=true then te fZ H4 fun y H5=>H5 D=some (.lst ys)∧ys.length<sizeLine∧Pv (i+1) (ys++[y]) fZ (upd H5 D (.lst (ys++[y])))else Pv (i+1) ys fZ H4)
  (hd:∀ys σ H,Pv n ys σ H→Q (.ref D) H):
  sM (JF lo n) ls js g tt te σ H1 D Q:=
 oG (n:=n) Pv h0 (fun i ys σ H hi p=>hi) (fun ys σ H p=>Nat.le_refl _)
  (fun i ys σ H x H2 hi p y=>by
   obtain⟨e,y⟩:=y;subst e y;exact hs i ys σ _ hi p) hd
theorem D6{z:Str}{ls:List Str}{js:List Nat}{g:TG}{tt:TT}{te:TE}{σ:St}{H1:Hp}{D:Addr}{Q:VK}(Pv:Nat→List V→St→Hp→Prop)
  (h0:Pv 0 [] (lC ls js σ) (upd H1 D (.lst [])))
  (hs:∀i c ys σ H,z.cps.toList[i]?=some c→Pv i ys σ H→g (.str ⟨#[c]⟩) σ H fun fZ H3=>tt fZ H3 fun b H4=>if b=true then te fZ H4 fun y H5=>H5 D=some (.lst ys)∧ys.length<sizeLine∧Pv (i+1) (ys++[y]) fZ (upd H5 D (.lst (ys++[y])))else Pv (i+1) ys fZ H4)
  (hd:∀ys σ H,Pv z.length ys σ H→Q (.ref D) H):
  sM (O7 z) ls js g tt te σ H1 D Q:=
 oG (n:=z.length) Pv h0 (fun i ys σ H hi p=>hi) (fun ys σ H p=>Nat.le_refl _)
  (fun i ys σ H x H2 hi p y=>by
   obtain⟨e,c,hc,ex⟩:=y;subst e ex;exact hs i c ys σ _ hc p) hd
theorem vp(z:Str)(lo hi:Option Int):(Txt.slice z lo hi).cps.toList=(z.cps.toList.drop (HT.ku z.length 0 lo)).take (HT.ku z.length z.length hi-HT.ku z.length 0 lo):=by
 have V9:=HT.DP z.length 0 (Nat.zero_le _) lo;have V_:=HT.DP z.length z.length (Nat.le_refl _) hi;have ix:Builtin.Str.strSliceIndices lo hi 1 z.length=(List.range (HT.ku z.length z.length hi-HT.ku z.length 0 lo)).map (HT.ku z.length 0 lo+·):=by
  rw[←sliceRange_one];have pos:(1:Int)>0:=ZA;cases lo with
  |none=>
   cases hi with
   |none=>rfl
   |some j=>
    simp only[Builtin.Str.strSliceIndices,HT.ku,pos,if_true]
    congr 1
    by_cases h:j<0
    ·simp only[h,if_true];lia
    ·simp only[h,if_false];lia
  |some i=>
   have e1:max 0 (min (if i<0 then i+(z.length:Int)else i) (z.length:Int))=((HT.ku z.length 0 (some i):Nat):Int):=by
    simp only[HT.ku];by_cases h:i<0
    ·simp only[h,if_true];lia
    ·simp only[h,if_false];lia
   cases hi with
   |none=>
    simp only[Builtin.Str.strSliceIndices,pos,if_true];rw[e1];rfl
   |some j=>
    have e2:max 0 (min (if j<0 then j+(z.length:Int)else j) (z.length:Int))=((HT.ku z.length z.length (some j):Nat):Int):=by
     simp only[HT.ku];by_cases h:j<0
     ·simp only[h,if_true];lia
     ·simp only[h,if_false];lia
    simp only[Builtin.Str.strSliceIndices,pos,if_true];rw[e1,e2]
 have hp:=pick_run z.cps (HT.ku z.length 0 lo) (HT.ku z.length z.length hi-HT.ku z.length 0 lo);unfold Txt.slice;rw[ix];split
 ·rename_i h
  simp only[List.length_map,List.length_range,beq_self_eq_true,Bool.true_and,beq_iff_eq]at h;have h0:HT.ku z.length 0 lo=0:=by lia
  have h1:HT.ku z.length z.length hi=z.length:=by lia
  rw[h0,h1,List.drop_zero,Nat.sub_zero,List.take_of_length_le (by simp[Str.length])]
 ·rw[←hp]
theorem vt(z:Str)(lo hi:Option Int):(Txt.slice z lo hi).length≤z.length:=Txt.slice_le z lo hi
section
variable{X:Cx}
def Rb:V→Option Int→Option Int→Hp→VK→Prop:=fun x lo hi H Q=>∃z,x= .str z∧z.length≤sizeLine∧Q (.str (Txt.slice z lo hi)) H
theorem zP:OX X Rb:=by
 intro pins s σ H x v vl vu lo hi sl Q I rx hs pl pu h;obtain⟨z,rfl,hz,q⟩:=h;obtain⟨t,rfl⟩:=rx;refine⟨"str",_,F.slot_str_getitem.lookup,typeIs_str _ _ _,?_⟩;have go:∀l u:Option (Int×Tok),vl=partValue l→vu=partValue u→l.map (·.1)=lo→u.map (·.1)=hi→wpAny (model X.prog X.w) X.A (getItem (.str z t) (.ref sl)) (EP X pins σ Q) X.xe s:=by
  rintro l u rfl rfl rfl rfl;obtain⟨o,h1,h2,h3⟩:=hs;refine wpAny_getItem_str_slice (l:=l) (u:=u) (st:=none) ⟨o,h1,h2,h3⟩ rfl ?_;exact post_val_or_str ⟨Nat.le_trans (Txt.slice_le z _ _) hz,fun t' k=>⟨.str (Txt.slice z (l.map (·.1)) (u.map (·.1))),H,I.tok _,⟨_,rfl⟩,q⟩⟩
 cases pl with
 |none=>
  cases pu with
  |none=>exact go none none rfl rfl rfl rfl
  |int j tj=>exact go none (some (j,tj)) rfl rfl rfl rfl
 |int i ti=>
  cases pu with
  |none=>exact go (some (i,ti)) none rfl rfl rfl rfl
  |int j tj=>exact go (some (i,ti)) (some (j,tj)) rfl rfl rfl rfl
theorem vw:rH X (compareOp .LtE) (fun x y H Q=>∃i j,x= .str i∧y= .str j∧Q (.bl (!decide (j.cps.toList<i.cps.toList))) H):=by
 intro pins s σ H x y v u Q I rx ry h;obtain⟨i,j,rfl,rfl,q⟩:=h;obtain⟨t,rfl⟩:=rx;obtain⟨t',rfl⟩:=ry;exact P.le_str (bH I q rfl)
theorem Gy{bs:List Bool}{us:List Value}(r:Vals (bs.map V.bl) us)(i:Nat)(v:Value)(h:us[i]?=some v):v= .bool (bs.getD i false):=by
 induction bs generalizing us i with
 |nil=>cases r;simp at h
 |cons b r' ih=>
  cases r with
  |cons r0 rr=>
   cases i with
   |zero=>
    have h0:some _=some v:=h;cases h0;exact r0
   |succ i=>simpa using ih rr i (by simpa using h)
theorem all_range(bs:List Bool):(List.range bs.length).all (fun i=>bs.getD i false)=bs.all id:=by
 rw[Bool.eq_iff_iff,List.all_eq_true,List.all_eq_true];constructor
 ·intro h b hb;obtain⟨i,hi,rfl⟩:=List.mem_iff_getElem.mp hb;have:=h i (by simpa using hi);simpa[hi]using this
 ·intro h i hi;have hi:i<bs.length:=by simpa using hi
  simpa[hi]using h bs[i] (List.getElem_mem hi)
def Nr(K:Frag)(f:List Bool→Bool):List V→Hp→VK→Prop:=fun xs H Q=>∃a bs,xs=[.ref a]∧iC K H a (bs.map V.bl)∧Q (.bl (f bs)) H
theorem D7(hc:X.calm=true):iY X (.builtin "all") (Nr X.K fun bs=>bs.all id):=by
 intro pins s σ H xs us Q I r h;obtain⟨a,bs,rfl,hq,q⟩:=h;cases r with
 |cons r rr=>
  cases rr;cases r;obtain⟨its,rv,p,hz⟩:=I.list hq;have hl:=rv.length;rw[List.length_map]at hl;refine call_all_walk (wpAny_pyIter_list p.isList ?_);have eR:a≠s.heap.objs.size:=by
   obtain⟨o,n,e,_⟩:=p;exact Nat.ne_of_lt (Heap.lt_size e)
  refine⟨s.heap.objs.size,_,_,_,_,_,fun i=>bs.getD i false,rfl,Walks.list (A:=X.A.in1) (show X.A.in1.handled=none from I.ok.hd hc) _ a eR its.toArray,⟨⟨_,Heap.get?_push_size _ rfl,rfl,rfl⟩,p.isList.at fun o e=>Zn e⟩,fun i v s1 Q1 E1 hv q1=>?_,fun h' tk hk=>?_⟩
  ·have hv:=Gy rv i v (by simpa using hv);subst hv;exact wpAny_truthy_bool q1
  ·rw[List.size_toArray,←hl,all_range];refine⟨.bl (bs.all id),H,I.kept fun b o e=>hk b o (fun z=>?_) (Zn e),rfl,q⟩;have z:b=s.heap.objs.size:=by simpa using z
   exact absurd (z▸Heap.lt_size e) (Nat.lt_irrefl _)
def Ij:V→Option Value
 | .ty n=>some (.type n)
 | .ref C=>some (.ref C)
 | _=>none
theorem Cb{c:V}{cv u:Value}(h:Ij c=some cv)(r:RelV c u):u=cv:=by
 cases c<;>first
  |(cases h;done)
  |(cases h;exact r)
inductive J7(K:Frag)(xs:List V)(H:Hp)(Q:VK):Prop
 |mk (x:_) (c:_) (t:_) (b:_) (cv:_) (_:xs=[x,c]) (_:Ij c=some cv) (_:qe K H x t) (_:kitOne K t cv=some b) (_:Q (.bl b) H):J7 K xs H Q
theorem D8:iY X (.builtin "isinstance") (J7 X.K):=by
 intro pins s σ H xs us Q I r h;obtain⟨x,c,t,b,cv,rfl,rc,ty,hk,q⟩:=h;cases r with
 |cons r1 rr=>
  cases rr with
  |cons r2 rr=>
   cases rr;cases Cb rc r2;exact B0 I r1 ty hk fun tk=>⟨.bl b,H,I.tok _,rfl,q⟩
end
section
variable{P:Program}{w:World}{K:Frag}{mg:Str→Option Value}{base:Heap}
abbrev O8(P:Program)(w:World)(K:Frag)(mg:Str→Option Value)(base:Heap)(cm:Bool)(N:List Str)(qual:Str)(scope:Scope)(f:Addr)(cd:Value)(A:Around)(outer:List Env)(s:Shared)(H:Hp)(E:XK):Cx:=
 zH (cV P w) cm P w K mg base N qual scope f cd A outer s H E
theorem jn.gK{cm:Bool}{x qual:Str}{st:Stmt}{f:Addr}{fd:FuncData}{N ps:List Str}{k:Nat}{sp:Sp}(F:jn K x qual st f fd)(S:aK N ps (au st))(len:∀vs H Q E,sp vs H Q E→vs.length=ps.length)
  (yh:∀(bR:Value)(A:Around)(outer:List Env)(s:Shared)(H:Hp)(vs:List V)(Q:VK)(E:XK),eQ cm k (A.deeper (envOfC qual (au st) s.heap.objs.size f bR))→sp vs H Q E→
   O1 (O8 P w K mg base cm N qual (au st) f bR A outer s H E) (fun _=>E)→
   ∃t,BQ (O8 P w K mg base cm N qual (au st) f bR A outer s H E) (eI st) t∧t {nx:=fun _ H'=>Q .cN H',rt:=Q} (start N vs) H):aZ P w K mg base (cV P w) cm (k+1) f fd ps sp:=by
 obtain⟨oc,od,kV,doc,pm,an,bR,ct,A0,rfl,lk,BR⟩:=F.ex;exact HZ lk BR S len fun A outer s H vs Q E hr FJ=>yh bR A outer s H vs Q E hr FJ A7
end
def bK(P:Program)(w:World)(K:Frag)(mg:Str→Option Value)(base:Heap)(cm:Bool)(k:Nat)(x:Str)(ps:List Str)(sp:Sp):Prop:=
 ∃f fd,aZ P w K mg base (cV P w) cm k f fd ps sp∧mg x=some (.ref f)∧keepIn K (.ref f)=true∧Binds K fd ps []
theorem D9{P:Program}{w:World}{K:Frag}{mg:Str→Option Value}{base:Heap}{cm:Bool}{k:Nat}{x y:Str}{ps:List Str}{sp:Sp}{st:Stmt}{f:Addr}{fd:FuncData}(F:jn K x y st f fd)(hm:mg x=some (.ref f))(b:Binds K fd ps [])
  (ok:aZ P w K mg base (cV P w) cm k f fd ps sp):bK P w K mg base cm k x ps sp:=⟨f,fd,ok,hm,F.kp,b⟩
section
variable{X:Cx}{cm:Bool}{k:Nat}{x:Str}{ps:List Str}{sp:Sp}{E:St→XK}{e:Expr}{es:List Expr}{t:TA}{p pos:Pos}
theorem aM(D:bK X.prog X.w X.K X.mg X.base cm k x ps sp)(hr:eQ cm k X.A)(hx:Passes (cV X.prog X.w) X E)(ha:PA X (e::es) t)(hg:Gl X x:=by rfl)(vU:(x==("__debug__":Str))=false:=by decide)
  (he:starEach (e::es) X.env=(false,eval e X.env)::starEach es X.env:=by rfl) (rh:(backTo pos (starEach es X.env)).any (·.1)=false:=by rfl):PE X (.Call (.Name x p) (e::es) [] pos) (HY sp [] E t):=by
 obtain⟨f,fd,ok,hm,hk,hb⟩:=D;exact F' ok hr hg hm hk hb .nil hx ha vU he rh
theorem fI{v:V}(h:∃u,X.mg x=some u∧RelV v u)(hg:Gl X x:=by rfl)(hd:(x==("__debug__":Str))=false:=by decide):PE X (.Name x pos) (tC v):=by
 obtain⟨u,h1,h2⟩:=h;exact AR hg h1 h2 hd
end
theorem wg{σ:St}{H:Hp}{A B:Hp→Prop}(h:A H):J5 σ H (fun b H4=>if b=true then A H4 else B H4):=by
 show if true=true then A H else B H
 exact jP h
theorem sN{i:Nat}{x:V}{σ:St}{H:Hp}{A B:St→Hp→Prop}(h:A (σ.set i (some x)) H):AS i x σ H (fun fZ H3=>J5 fZ H3 (fun b H4=>if b=true then A fZ H4 else B fZ H4)):=by
 show if true=true then A (σ.set i (some x)) H else B (σ.set i (some x)) H
 exact jP h
theorem aE{n:Nat}(h:n≤100000):n≤sizeLine:=Nat.le_trans h (ZA)
theorem bf{n:Nat}(h:n≤100000):n<sizeLine:=Nat.lt_of_le_of_lt h (ZA)
def Rg(t u:TS):TS:=fun D σ H=>∃Pm:St→Hp→Prop,t {D with nx:=Pm} σ H∧∀bD H',Pm bD H'→u D bD H'
theorem aF{X:Cx}{st:Stmt}{rest:List Stmt}{t u:TS}(h1:PS X st t)(h2:BQ X rest u):BQ X (st::rest) (Rg t u):=by
 intro pins s σ H D I h;obtain⟨Pm,ht,hu⟩:=h;refine wpAny_execs_cons (cH (h1 pins s σ H {D with nx:=Pm} I ht) fun f s1 q=>?_);cases f with
 |next=>obtain⟨bD,H',I',p⟩:=q;exact h2 pins s1 bD H' D I' (hu bD H' p)
 |brk=>exact q
 |cont=>exact q
 |ret v=>exact q
theorem ax.upd{H:Hp}{a:Addr}{o:HO}(h:H a=none):ax H (upd H a o):=fun b u e=>by rw[ak (aD e h)];exact e
theorem ax.ft{H H':Hp}{a:Addr}{o:HO}(s:ax H H')(h:H a=none):ax H (L2.upd H' a o):=fun b u e=>by rw[ak (aD e h)];exact s b u e
end L2
namespace QF
open PySem L2
theorem p8{n:Nat}{P:List Value→Prop}(h:∀a us,us.length=n→P (a::us)):∀us:List Value,us.length=n+1→P us:=fun us e=>by
 cases us with
 |nil=>cases e
 |cons a r=>exact h a r (Nat.succ.inj e)
theorem J8{P:List Value→Prop}(h:P []):∀us:List Value,us.length=0→P us:=fun us e=>by
 cases us with
 |nil=>exact h
 |cons a r=>cases e
theorem V'{P:List Value→Prop}(h:∀a,P [a]):∀us:List Value,us.length=1→P us:=p8 fun a=>J8 (h a)
theorem Wa{P:List Value→Prop}(h:∀a b,P [a,b]):∀us:List Value,us.length=2→P us:=p8 fun a=>p8 fun b=>J8 (h a b)
theorem Wb{P:List Value→Prop}(h:∀a b c,P [a,b,c]):∀us:List Value,us.length=3→P us:=p8 fun a=>p8 fun b=>p8 fun c=>J8 (h a b c)
theorem Wc{P:List Value→Prop}(h:∀a b c d,P [a,b,c,d]):∀us:List Value,us.length=4→P us:=p8 fun a=>p8 fun b=>p8 fun c=>p8 fun d=>J8 (h a b c d)
theorem Wd{P:List Value→Prop}(h:∀a b c d e,P [a,b,c,d,e]):∀us:List Value,us.length=5→P us:=p8 fun a=>p8 fun b=>p8 fun c=>p8 fun d=>p8 fun e=>J8 (h a b c d e)
theorem We{P:List Value→Prop}(h:∀a b c d e f,P [a,b,c,d,e,f]):∀us:List Value,us.length=6→P us:=p8 fun a=>p8 fun b=>p8 fun c=>p8 fun d=>p8 fun e=>p8 fun f=>J8 (h a b c d e f)
theorem Wf{P:List Value→Prop}(h:∀a b c d e f g,P [a,b,c,d,e,f,g]):∀us:List Value,us.length=7→P us:=p8 fun a=>p8 fun b=>p8 fun c=>p8 fun d=>p8 fun e=>p8 fun f=>p8 fun g=>J8 (h a b c d e f g)
theorem Rh(us:List Value)(e:us.length=7):∃a b c d e f g,us=[a,b,c,d,e,f,g]:=Wf (P:=fun us=>∃a b c d e f g,us=[a,b,c,d,e,f,g]) (fun a b c d e f g=>⟨a,b,c,d,e,f,g,rfl⟩) us e
end QF
namespace L2
open PySem PySem.Spec PyProof.Rows PySem.W PySem.Calls
def notStar:Expr→Bool
 | .Starred _ _=>false
 | _=>true
theorem sO{e:Expr}{es:List Expr}{env:Env}(h:notStar e=true):starEach (e::es) env=(false,eval e env)::starEach es env:=by
 cases e<;>first|rfl|cases h
theorem aj{X:Cx}{e:Expr}{es:List Expr}{te:TE}{t:TA}(ha:PE X e te)(hr:PA X es t)(hn:notStar e=true:=by rfl):PA X (e::es) (HX te t):=F_ ha hr (sO hn)
structure iy(K:Frag)(x qual:Str)(st:Stmt)(f:Addr)(fd:FuncData):Prop where
 ex:∃(oc:Value)(od:Option Addr)(dV kV doc pm:Value)(an:Option Addr)(bR ct:Value)(A0:Array (Option Value)),
  fd=fnOf x qual (fm st) (eI st) (au st) dV kV doc pm an bR ct∧K.lookup f=some ⟨oc,od, .func fd,A0⟩∧codeIn K bR qual=true
 kp:keepIn K (.ref f)=true
theorem A9{K:Frag}{x qual:Str}{st:Stmt}{f:Addr}{oc:Value}{od an:Option Addr}{A0:Array (Option Value)}{dV kV doc pm bR ct:Value}(l:K.lookup f=some ⟨oc,od, .func (fnOf x qual (fm st) (eI st) (au st) dV kV doc pm an bR ct),A0⟩)
  (c:codeIn K bR qual=true) (k:keepIn K (.ref f)=true):iy K x qual st f (fnOf x qual (fm st) (eI st) (au st) dV kV doc pm an bR ct):=⟨⟨oc,od,dV,kV,doc,pm,an,bR,ct,A0,rfl,l,c⟩,k⟩
section
variable{P:Program}{w:World}{K:Frag}{mg:Str→Option Value}{base:Heap}
theorem iy.gK{cm:Bool}{x qual:Str}{st:Stmt}{f:Addr}{fd:FuncData}{N ps:List Str}{k:Nat}{sp:Sp}(F:iy K x qual st f fd)(S:aK N ps (au st))(len:∀vs H Q E,sp vs H Q E→vs.length=ps.length)
  (yh:∀(bR:Value)(A:Around)(outer:List Env)(s:Shared)(H:Hp)(vs:List V)(Q:VK)(E:XK),eQ cm k (A.deeper (envOfC qual (au st) s.heap.objs.size f bR))→sp vs H Q E→
   O1 (O8 P w K mg base cm N qual (au st) f bR A outer s H E) (fun _=>E)→
   ∃t,BQ (O8 P w K mg base cm N qual (au st) f bR A outer s H E) (eI st) t∧t {nx:=fun _ H'=>Q .cN H',rt:=Q} (start N vs) H):aZ P w K mg base (cV P w) cm (k+1) f fd ps sp:=by
 obtain⟨oc,od,dV,kV,doc,pm,an,bR,ct,A0,rfl,lk,BR⟩:=F.ex;exact HZ lk BR S len fun A outer s H vs Q E hr FJ=>yh bR A outer s H vs Q E hr FJ A7
end
def eF(P:Program)(w:World)(K:Frag)(mg:Str→Option Value)(base:Heap)(cm:Bool)(k:Nat)(C:Addr)(m:Str)(ps:List Str)(sp:Sp):Prop:=
 ∃f fd,aZ P w K mg base (cV P w) cm k f fd ps sp∧Meth K C m f∧Binds K fd ps []∧vT K C
def mQ(P:Program)(w:World)(K:Frag)(mg:Str→Option Value)(base:Heap)(cm:Bool)(k:Nat)(x:Str)(C:Addr)(ps:List Str)(l':List V)(sp:Sp):Prop:=
 ∃f fd ds,aZ P w K mg base (cV P w) cm k f fd ps sp∧Mk K C f∧mg x=some (.ref C)∧Binds K fd ps ds∧Vals l' ds
theorem yq{P:Program}{w:World}{K:Frag}{mg:Str→Option Value}{base:Heap}{cm:Bool}{k:Nat}{x:Str}{C f:Addr}{fd:FuncData}{ps:List Str}{l':List V}{ds:List Value}{sp:Sp}(h1:aZ P w K mg base (cV P w) cm k f fd ps sp)(h2:Mk K C f)(h3:mg x=some (.ref C))(h4:Binds K fd ps ds)(h5:Vals l' ds):mQ P w K mg base cm k x C ps l' sp:=⟨f,fd,ds,h1,h2,h3,h4,h5⟩
theorem Cc{P:Program}{w:World}{K:Frag}{mg:Str→Option Value}{base:Heap}{cm:Bool}{k:Nat}{m:Str}{C f:Addr}{fd:FuncData}{ps:List Str}{sp:Sp}(h1:aZ P w K mg base (cV P w) cm k f fd ps sp)(h2:Meth K C m f)(h3:Binds K fd ps [])(h4:vT K C):eF P w K mg base cm k C m ps sp:=⟨f,fd,h1,h2,h3,h4⟩
section
variable{X:Cx}{cm:Bool}{k:Nat}{x m:Str}{ps:List Str}{sp:Sp}{E:St→XK}{e o:Expr}{es:List Expr}{t:TA}{to:TE}{p pos apos:Pos}{C:Addr}{l':List V}
theorem sf(D:mQ X.prog X.w X.K X.mg X.base cm k x C ps l' sp)(hr:eQ cm (k+1) X.A)(hx:Passes (cV X.prog X.w) X E)(ha:PA X (e::es) t)(hg:Gl X x:=by rfl)(vU:(x==("__debug__":Str))=false:=by decide)
  (he:starEach (e::es) X.env=(false,eval e X.env)::starEach es X.env:=by rfl) (rh:(backTo pos (starEach es X.env)).any (·.1)=false:=by rfl):PE X (.Call (.Name x p) (e::es) [] pos) (AZ C sp l' E t):=by
 obtain⟨f,fd,ds,ok,M,hm,hb,hd⟩:=D;exact Gb M ok hr hg hm hb hd hx ha vU he rh
theorem bL{pl:Sem Bool}(ho:PE X o to)(D:eF X.prog X.w X.K X.mg X.base cm k C m ps sp)(hr:eQ cm k X.A)(hx:Passes (cV X.prog X.w) X E)(ha:PA X (e::es) t)
  (u9:starEach (e::es) X.env=(false,eval e X.env)::starEach es X.env:=by rfl) (rh:(backTo pos (starEach es X.env)).any (·.1)=false:=by rfl)
  (ht:eval (.Call (.Attribute o m apos) (e::es) [] pos) X.env=(do
   let ov←eval o X.env
   standAt apos.atName
   let (f,first)←holding [ov] (getMethod ov m pl)
   callWith pos f first (backTo pos (starEach (e::es) X.env)) (backToKw pos (keywordEach [] X.env))):=by rfl):PE X (.Call (.Attribute o m apos) (e::es) [] pos) (AY C m sp [] E to t):=by
 obtain⟨f,fd,ok,hm,hb,c⟩:=D;exact Ga ho c hm ok hr hb .nil hx ha u9 rh ht
theorem Cd{pl:Sem Bool}(ho:PE X o to)(D:eF X.prog X.w X.K X.mg X.base cm k C m ps sp)(hr:eQ cm k X.A)(hx:Passes (cV X.prog X.w) X E)
  (ht:eval (.Call (.Attribute o m apos) [] [] pos) X.env=(do
   let ov←eval o X.env
   standAt apos.atName
   let (f,first)←holding [ov] (getMethod ov m pl)
   callWith pos f first (backTo pos (starEach [] X.env)) (backToKw pos (keywordEach [] X.env))):=by rfl):PE X (.Call (.Attribute o m apos) [] [] pos) (AY C m sp [] E to DF):=by
 obtain⟨f,fd,ok,hm,hb,c⟩:=D;exact DH ho c hm ok hr hb .nil hx ht
end
section
variable{X:Cx}
theorem bg(K:Frag){tg l:Expr}{tl:TE}(hl:PE X l tl)(h:X.K=K:=by rfl):PI X tg l (HU K tl):=h▸F2 hl
theorem aC(K:Frag){e:Expr}{f:Str}{pos:Pos}{ta:TE}(he:PE X e ta)(hb:attributeBase e f X.env (eval e X.env)=eval e X.env:=by rfl)(h:X.K=K:=by rfl):PE X (.Attribute e f pos) (MT K ta f):=h▸JK he hb
theorem cq(K:Frag){o value:Expr}{f:Str}{pos pos':Pos}{ta tv:TE}(ha:PE X o ta)(hv:PE X value tv)(hs:swapsWith value (some (.Attribute o f pos')) pos.line X.env=pure false:=by rfl)(h:X.K=K:=by rfl):PS X (.Assign [.Attribute o f pos'] value pos) (MU K ta tv f):=h▸JL ha hv hs
theorem ao(K:Frag)(h:X.K=K:=by rfl):LP X (JT K):=h▸Gk
theorem bT(K:Frag)(h:X.K=K:=by rfl):LP X (JU K):=h▸JV
theorem D_(K:Frag)(h:X.K=K:=by rfl):OX X (JX K):=h▸Gm
inductive Ik(K:Frag)(xs:List V)(H:Hp)(Q:VK):Prop
 |mk (p:_) (ys:_) (_:xs=[.ref p]) (_:(iC K H p ys∨Dv K H p ys)) (_:Q (.int ys.length) H):Ik K xs H Q
theorem aJ(K:Frag)(h:X.K=K:=by rfl):iY X (.builtin "len") (Ik K):=by
 subst h;intro pins s σ H xs us Q I r hq;obtain⟨p,ys,e,d,q⟩:=hq;exact v8 pins s σ H xs us Q I r ⟨p,ys,e,d,q⟩
inductive A_(K:Frag)(xs:List V)(H:Hp)(Q:VK):Prop
 |mk (p:_) (ys:_) (_:xs=[.ref p]) (_:(iC K H p ys∨Dv K H p ys)) (_:∀l,H l=none→Q (.ref l) (upd H l (.lst ys))):A_ K xs H Q
theorem fD(K:Frag)(h:X.K=K:=by rfl):iY X (.type "list") (A_ K):=by
 subst h;intro pins s σ H xs us Q I r hq;obtain⟨p,ys,e,d,q⟩:=hq;exact v9 pins s σ H xs us Q I r ⟨p,ys,e,d,q⟩
theorem Ce(K:Frag)(hc:X.calm=true)(h:X.K=K:=by rfl):iY X (.builtin "all") (Nr K fun bs=>bs.all id):=h▸D7 hc
theorem fW(K:Frag)(h:X.K=K:=by rfl):iY X (.builtin "isinstance") (J7 K):=h▸D8
theorem f_(K:Frag){es:List Expr}{k:Nat}{t:HS}{n:Nat}{pos:Pos}(hc:X.calm=true)(h:MI X es t)
  (hn:(assignEach es X.env).length=n:=by rfl) (u9:(assignEach es X.env).findIdx? (·.1)=none:=by rfl) (hK:X.K=K:=by rfl):PG X (.Tuple es k pos) (JA K n t):=hK▸JB hc h hn u9
theorem eY(K:Frag){T:String}{name:Str}{id:String}{r:V→List V→Hp→VK→Prop}{o e:Expr}{es:List Expr}{apos eD:Pos}{to:TE}{t:TA}(pa:PlainAttrs T)(slot:Slot T name id)(Dd:typeOf (.builtin id)=pure (.type "method_descriptor"))(hm:OY X id r)(ho:PE X o to)(ha:PA X (e::es) t)
  (oz:attributeBase o name X.env (eval o X.env)=eval o X.env:=by rfl)
  (DT:((backTo eD (starEach (e::es) X.env)).all (fun x=>!x.1)&&(backToKw eD (keywordEach [] X.env)).all (fun x=>x.1.isSome)
   &&decide ((e::es).length+([]:List Keyword).length+(if ([]:List Keyword).isEmpty then 0 else 1)<30))=true:=by rfl)
  (oA:(apos.endLine==eD.line)=true:=by rfl) (hs:starEach (e::es) X.env=(false,eval e X.env)::starEach es X.env:=by rfl) (zJ:(backTo eD (starEach es X.env)).any (·.1)=false:=by rfl) (hK:X.K=K:=by rfl):
  PE X (.Call (.Attribute o name apos) (e::es) [] eD) (Tx K T r to t):=hK▸M9 pa slot Dd hm ho ha oz DT oA hs zJ
end
section
variable{X:Cx}
end
end L2
namespace QF
open PySem L2
structure TB(mg:Str→Option Value):Prop where
 cP:mg "len"=none
 fJ:mg "range"=none
 cW:mg "isinstance"=none
 Ba:mg "int"=none
 J9:mg "bool"=none
 TX:mg "str"=none
 jQ:mg "list"=none
 Gz:mg "tuple"=none
 Ri:mg "dict"=none
 Nt:mg "all"=none
 TY:mg "any"=none
 Bb:mg "min"=none
 Il:mg "max"=none
 jq:mg "enumerate"=none
 GA:mg "ValueError"=none
def DE(mg:Str→Option Value)(x:Str)(v:V):Prop:=∃u,mg x=some u∧RelV v u
def cell(ns:List Int)(k:Int):Int:=ns.getD k.toNat 0
theorem GB{ns:List Int}{k:Int}(h0:0≤k)(h:k<(ns.length:Int)):rj (ns.map V.int) k=some (.int (cell ns k)):=by
 obtain⟨j,rfl⟩:=Int.eq_ofNat_of_zero_le h0;have hj:j<ns.length:=Zz;refine ar ?_;simp[cell,hj]
theorem cell_out{ns:List Int}{k:Int}(h0:0≤k)(h:¬k<(ns.length:Int)):cell ns k=0:=by
 have hj:ns.length≤k.toNat:=Zz;simp[cell,hj]
def low(c:Nat):Bool:=decide (97≤c)&&decide (c≤122)
def sP(z:Str):Bool:=decide (1≤z.length)&&decide (z.length≤12)&&z.cps.toList.all low
theorem T8(a b:Nat):(([a]:List Nat)<[b])↔a<b:=by
 constructor
 ·intro h;cases h with
  |rel h=>exact h
  |cons h=>cases h
 ·intro h;exact .rel h
theorem Rj(c:Nat):(!decide (([c]:List Nat)<(Str.ofString "a").cps.toList))=decide (97≤c):=by
 have e:(Str.ofString "a").cps.toList=[97]:=by decide+kernel
 rw[e,Bool.eq_iff_iff];simp only[Bool.not_eq_true',decide_eq_false_iff_not,decide_eq_true_eq,T8];omega
theorem Rk(c:Nat):(!decide ((Str.ofString "z").cps.toList<([c]:List Nat)))=decide (c≤122):=by
 have e:(Str.ofString "z").cps.toList=[122]:=by decide+kernel
 rw[e,Bool.eq_iff_iff];simp only[Bool.not_eq_true',decide_eq_false_iff_not,decide_eq_true_eq,T8];omega
theorem len_app(x y:Str):(x++y).length=x.length+y.length:=by
 show(x.cps++y.cps).size=_;rw[Array.size_append];rfl
inductive Ea(K:W.Frag)(vs:List V)(H:Hp)(Q:VK)(u3:XK):Prop
 |mk (a:_) (ns:_) (k:_) (_:vs=[.ref a, .int k]) (_:iC K H a (ns.map V.int)) (_:0≤k) (_:Q (.int (cell ns k)) H):Ea K vs H Q u3
inductive sQ(vs:List V)(H:Hp)(Q:VK)(u3:XK):Prop
 |mk (i:_) (_:vs=[.int i]) (_:Q (.bl true) H):sQ vs H Q u3
inductive zQ(vs:List V)(H:Hp)(Q:VK)(u3:XK):Prop
 |mk (c:Nat) (_:vs=[.str ⟨#[c]⟩]) (_:Q (.bl (low c)) H):zQ vs H Q u3
inductive wj(vs:List V)(H:Hp)(Q:VK)(u3:XK):Prop
 |mk (z:Str) (_:vs=[.str z]) (_:z.length≤100000) (_:∀H',ax H H'→Q (.bl (sP z)) H'):wj vs H Q u3
inductive nh(vs:List V)(H:Hp)(Q:VK)(u3:XK):Prop
 |mk (l n h:Int) (_:vs=[.int l, .int n, .int h]) (_:Q (.bl (decide (l≤n)&&decide (n≤h))) H):nh vs H Q u3
def Bc(K:W.Frag):Sp:=fun vs H Q _=>∃(a:Addr)(ns:List Int),vs=[.ref a]∧iC K H a (ns.map V.int)∧ns.length≤63∧∀H',Q (.bl true) H'
structure Er(K:W.Frag)(mg:Str→Option Value)(x:Str)(C:Addr):Prop where
 m:mg x=some (.ref C)
 e:Ng K C
def inR(l n h:Int):Bool:=decide (l≤n)&&decide (n≤h)
inductive qh(C:Addr)(vs:List V)(H:Hp)(Q:VK)(E:XK):Prop
 |mk (nm:Str) (n l h:Int) (_:vs=[.str nm, .int n, .int l, .int h]) (_:nm.length≤20) (_:(0≤l∧l≤1)) (_:(h=100∨h=999999)) (_:(if inR l n h=true then Q .cN H else E (.ref C) none H)):qh C vs H Q E
theorem oH{i:Int}(h:i=0∨i=1∨i=12∨i=40∨i=60∨i=100∨i=999999):i.natAbs.log2<1920∧(Str.ofString (toString i)).length≤6:=by
 rcases h with rfl|rfl|rfl|rfl|rfl|rfl|rfl<;>exact⟨by decide+kernel,by decide+kernel⟩
theorem mf:(Str.empty).length=0:=by decide+kernel
theorem ie{x:V}:[x].length≤sizeLine:=aE Zu
def iz(x y:Str)(p:Int):Bool:=sP x&&sP y&&!(x==y)&&inR 0 p 999999
inductive wk(C:Addr)(vs:List V)(H:Hp)(Q:VK)(E:XK):Prop
 |mk (x y:Str) (p:Int) (_:vs=[.str x, .str y, .int p]) (_:x.length≤100000) (_:y.length≤100000) (_:(if iz x y p=true then ∀H',ax H H'→Q .cN H' else ∀H',ax H H'→E (.ref C) none H')):wk C vs H Q E
abbrev Form:=Str×Str×Int
def J_(f:Form):List V:=[.str f.1, .str f.2.1, .int f.2.2]
def k_(f:Form):List Key:=[.inr f.1, .inr f.2.1]
def lD(f:Form):List Key×V:=(k_ f, .int f.2.2)
def De(f:Form):Bool:=iz f.1 f.2.1 f.2.2
def dP(H:Hp)(xs:List V)(fs:List Form):Prop:=xs.length=fs.length∧∀(i:Nat)(f:Form),fs[i]?=some f→∃t,xs[i]?=some (V.ref t)∧H t=some (.tup (J_ f))
def bM(fs:List Form):Bool:=decide (fs.length≤60)&&fs.all De&&decide ((fs.map k_).Nodup)
def Short(fs:List Form):Prop:=fs.length≤1000∧∀f∈fs,f.1.length≤100000∧f.2.1.length≤100000
theorem dP.same{H H':Hp}{xs:List V}{fs:List Form}(t:dP H xs fs)(s:ax H H'):dP H' xs fs:=⟨t.1,fun i f e=>let ⟨b,h1,h2⟩:=t.2 i f e;⟨b,h1,s _ _ h2⟩⟩
theorem dP.nil{H:Hp}:dP H [] []:=⟨rfl,fun i f e=>by simp at e⟩
inductive qi(C:Addr)(vs:List V)(H:Hp)(Q:VK)(E:XK):Prop
 |mk (a:Addr) (xs:List V) (fs:List Form) (_:vs=[.ref a]) (_:H a=some (.lst xs)) (_:dP H xs fs) (_:Short fs) (_:(if bM fs=true then ∀H' d,ax H H'→H d=none→H' d=some (.dT (fs.map lD))→Q (.ref d) H' else ∀H',ax H H'→E (.ref C) none H')):qi C vs H Q E
theorem Bd(fs:List Form):(fs.map lD).map (·.1)=fs.map k_:=by rw[List.map_map];rfl
theorem Eb{fs:List Form}{i:Nat}{f:Form}(e:fs[i]?=some f)(h:De f=false):bM fs=false:=by
 have hm:f∈fs:=Zk e;have:fs.all De=false:=by
  rw[Bool.eq_false_iff];intro z;rw[List.all_eq_true]at z;rw[z f hm]at h;cases h
 simp[bM,this]
theorem Cf{fs:List Form}{i:Nat}{f:Form}(e:fs[i]?=some f)(h:k_ f∈(fs.take i).map k_):bM fs=false:=by
 have:¬(fs.map k_).Nodup:=fun z=>by
  obtain⟨hi,e'⟩:=Y' e;have e2:fs=fs.take i++f::fs.drop (i+1):=by
   rw[←e',List.getElem_cons_drop,List.take_append_drop]
  rw[e2,List.map_append,List.map_cons,List.nodup_append]at z;exact z.2.2 _ h _ (List.mem_cons_self) rfl
 simp[bM,this]
theorem Cg{fs:List Form}{i:Nat}{f:Form}(e:fs[i]?=some f):(fs.take (i+1)).map lD=(fs.take i).map lD++[lD f]:=by
 rw[List.take_succ,e,List.map_append];rfl
theorem Nu{fs:List Form}{k:List Key}(h:bu (fs.map lD) k=none):k∉fs.map k_:=by
 have:=yp h;rwa[Bd]at this
theorem J'{fs:List Form}{k:List Key}{v:V}(h:bu (fs.map lD) k=some v):k∈fs.map k_:=by
 have:=A6 h;rwa[Bd]at this
structure Ec(K:W.Frag)(C:Addr):Prop where
 cl:vT K C
 same:b_ K C "same"
 out:b_ K C "out"
 into:b_ K C "into"
 least:b_ K C "least"
 part:b_ K C "part"
 near:b_ K C "near"
 Ed:b_ K C "prices"
structure Nums where
 same:Int
 out:Int
 into:Int
 least:Int
 part:Int
def i6(n:Nums):Bool:=inR 1 n.same 999999&&inR 0 n.out 999999&&inR 0 n.into 999999&&inR 1 n.least 999999&&inR 1 n.part 100
def wm(n:Nums)(l d:Addr):List (Str×V):=[("same", .int n.same),("out", .int n.out),("into", .int n.into),("least", .int n.least),("part", .int n.part),("near", .ref l),("prices", .ref d)]
def mR(n:Nums):List (Str×V):=[("same", .int n.same),("out", .int n.out),("into", .int n.into),("least", .int n.least),("part", .int n.part)]
def SameBut(x:Addr)(H H':Hp):Prop:=∀b u,b≠x→H b=some u→H' b=some u
structure kx(H:Hp)(C x:Addr)(n:Nums)(fs:List Form)(dx l d:Addr)(xs:List V):Prop where
 ob:H x=some (.ins C dx (wm n l d))
 own:H dx=some (.own x)
 li:H l=some (.lst xs)
 tr:dP H xs fs
 di:H d=some (.dT (fs.map lD))
def Nv(H:Hp)(v:V)(xs:List V)(fs:List Form):Prop:=(v= .cN∧xs=[]∧fs=[])∨∃a,v= .ref a∧H a=some (.lst xs)∧dP H xs fs
inductive sg(C CT CN:Addr)(vs:List V)(H:Hp)(Q:VK)(E:XK):Prop
 |mk (x dx:Addr) (n:Nums) (nv:V) (xs:List V) (fs:List Form) (_:vs=[.ref x, .int n.same, .int n.out, .int n.into, .int n.least, .int n.part,nv]) (_:H x=some (.ins C dx [])) (_:H dx=some (.own x)) (_:Nv H nv xs fs) (_:Short fs) (_:(if i6 n=true then(if bM fs=true then ∀H' l d,SameBut x H H'→kx H' C x n fs dx l d xs→H l=none→H d=none→Q .cN H' else ∀H',SameBut x H H'→E (.ref CN) none H')else ∀H',SameBut x H H'→E (.ref CT) none H')):sg C CT CN vs H Q E
theorem Rl(n:Nums):bo "part" (.int n.part) (bo "least" (.int n.least) (bo "into" (.int n.into) (bo "out" (.int n.out) (bo "same" (.int n.same) []))))=mR n:=by kernel_rfl
theorem Ro(n:Nums)(l d:Addr):bo "prices" (.ref d) (bo "near" (.ref l) (mR n))=wm n l d:=by kernel_rfl
theorem Nw(n:Nums)(l:Addr):(bo "near" (.ref l) (mR n)).lookup ("near":Str)=some (V.ref l):=by kernel_rfl
theorem SameBut.refl{x:Addr}{H:Hp}:SameBut x H H:=fun _ _ _ h=>h
theorem SameBut.upd{x:Addr}{H H':Hp}{o:HO}(s:SameBut x H H'):SameBut x H (upd H' x o):=fun b u n h=>by rw[ak n];exact s b u n h
theorem SameBut.same{x:Addr}{H H' H2:Hp}(s:SameBut x H H')(t:ax H' H2):SameBut x H H2:=fun b u n h=>t b u (s b u n h)
theorem SameBut.laid{x a:Addr}{H H':Hp}{o:HO}(s:SameBut x H H')(h:H a=none):SameBut x H (L2.upd H' a o):=fun b u n e=>by rw[ak (aD e h)];exact s b u n e
theorem SameBut.free{x l:Addr}{H H':Hp}{o:HO}(s:SameBut x H H')(hx:H' x=some o)(h:H' l=none):H l=none:=by
 cases e:H l with
 |none=>rfl
 |some u=>
  have n:l≠x:=fun z=>by rw[z,hx]at h;cases h
  rw[s l u n e]at h;cases h
theorem dP.but{x:Addr}{H H':Hp}{xs:List V}{fs:List Form}{C dx:Addr}{gs:List (Str×V)}(t:dP H xs fs)(s:SameBut x H H')(hx:H x=some (.ins C dx gs)):dP H' xs fs:=
 ⟨t.1,fun i f e=>let ⟨b,h1,h2⟩:=t.2 i f e;⟨b,h1,s _ _ (fun z=>by rw[z,hx]at h2;cases h2) h2⟩⟩
def fl(j:Nat):List V:=[.bl (decide (0=j)), .bl (decide (1=j)), .bl (decide (2=j)), .bl (decide (3=j)), .bl (decide (4=j)), .bl (decide (5=j)), .bl (decide (6=j)), .bl (decide (7=j)), .bl (decide (8=j)), .bl (decide (9=j)), .bl (decide (10=j)), .bl (decide (11=j)), .bl (decide (12=j)), .bl (decide (13=j))]
def kinds:List Str:=["word","book","terms","near","way","name","year","taken","full","many","no book","no finding","left","search","another"]
def kindOf(j:Nat):Str:=kinds.getD j ""
theorem int_at(is:List Int){i:Int}(h0:0≤i)(h:i<(is.length:Int)):∃m,m∈is∧rj (is.map V.int) i=some (.int m):=by
 obtain⟨j,rfl⟩:=Int.eq_ofNat_of_zero_le h0;have hj:j<is.length:=Zz;exact⟨is[j],List.getElem_mem hj,ar (by simp[hj])⟩
theorem Ee(n:Nums)(l d:Addr):(wm n l d).lookup ("same":Str)=some (V.int n.same):=by kernel_rfl
theorem l_out(n:Nums)(l d:Addr):(wm n l d).lookup ("out":Str)=some (V.int n.out):=by kernel_rfl
theorem Ka(n:Nums)(l d:Addr):(wm n l d).lookup ("into":Str)=some (V.int n.into):=by kernel_rfl
theorem GC(n:Nums)(l d:Addr):(wm n l d).lookup ("least":Str)=some (V.int n.least):=by kernel_rfl
theorem Ef(n:Nums)(l d:Addr):(wm n l d).lookup ("prices":Str)=some (V.ref d):=by kernel_rfl
theorem wt(n:Nums)(l d:Addr):(wm n l d).lookup ("pair_worth":Str)=none:=by kernel_rfl
end QF
namespace L2
open PySem PySem.Spec PyProof.Rows PySem.W PySem.Calls
section
variable{X:Cx}
inductive Nx(K:Frag)(x:V)(y:V)(H:Hp)(Q:VK):Prop
 |mk (p:_) (q:_) (xs:_) (_:x= .ref p) (_:y= .ref q) (_:iC K H p xs) (_:iC K H q []) (_:Q (.bl (!xs.isEmpty)) H):Nx K x y H Q
theorem ni(K:Frag)(hu:X.A.units<cLine)(hK:X.K=K:=by rfl):rH X (compareOp .NotEq) (Nx K):=by
 subst hK;intro pins s σ H x y v u Q I rx ry h;obtain⟨p,q,xs,rfl,rfl,hp,hq,k⟩:=h;cases rx;cases ry;obtain⟨its,r,pl,hz⟩:=I.list hp;obtain⟨eE,r2,GD,LR⟩:=I.list hq;cases r2;obtain⟨⟨cls,dd,data,sl⟩,ho,hc,n,hd⟩:=id pl.isList;obtain⟨⟨Kb,Eh,data2,xQ⟩,xR,ug,n2,hd2⟩:=id GD.isList;simp only at hc hd ug hd2;subst hc hd ug hd2;by_cases e:its=[]
 ·subst e;cases r;refine richCompare_meets_room (op:= .NotEq) ⟨_,ho,rfl⟩ ⟨_,xR,rfl⟩ F.slot_list_ne F.entry_list_ne (F.args_list_ne_2 _ _) (SeqAt.list_neAt p q #[] #[] n n2 dd Eh sl xQ rfl (fun _=>true)) ⟨ho,xR,fun j h1 _=>absurd h1 Zu,?_⟩ hu;exact⟨(fun x=>nomatch x), .bl false,H,I,rfl,k⟩
 ·have hx:xs≠[]:=fun z=>by subst z;cases r;exact e rfl
  have hsz:(its.toArray.size !=(#[]:Array Value).size)=true:=by simpa using e
  refine richCompare_meets_room (op:= .NotEq) ⟨_,ho,rfl⟩ ⟨_,xR,rfl⟩ F.slot_list_ne F.entry_list_ne (F.args_list_ne_2 _ _) (SeqAt.list_ne_lengthsAt p q its.toArray #[] n n2 dd Eh sl xQ hsz) ⟨ho,xR,?_⟩ hu;have:(!xs.isEmpty)=true:=by simpa using hx
  rw[this]at k;exact⟨(fun x=>nomatch x), .bl true,H,I,rfl,k⟩
end
end L2
namespace QF
open PySem L2
theorem T9{α:Type}{xs:List α}{i:Nat}{v:α}(h:xs[i]?=some v):rj xs (0+(i:Int))=some v:=by
 rw[Int.zero_add];exact ar h
def dU(fs:List Form)(x y:Str):Option Int:=(fs.find? fun f=>decide (f.1=x∧f.2.1=y)).map (·.2.2)
def dB(same:Int)(fs:List Form)(x y:Str):Option Int:=if x=y then some same else(dU fs x y).map (same-·)
def bA:Option Int→V
 |none=> .cN
 |some i=> .int i
theorem wu(f:Form)(x y:Str):k_ f=[.inr x, .inr y]↔f.1=x∧f.2.1=y:=by simp[k_]
theorem vx(x y:Str):∀fs:List Form,bu (fs.map lD) [.inr x, .inr y]=(dU fs x y).map V.int
 |[]=>rfl
 |f::r=>by
  rw[List.map_cons];by_cases h:k_ f=[.inr x, .inr y]
  ·have h':=(wu f x y).mp h;rw[cG (show(lD f).1=_ from h)];simp[dU,List.find?_cons,h'.1,h'.2,lD]
  ·have h':¬(f.1=x∧f.2.1=y):=fun z=>h ((wu f x y).mpr z)
   rw[cz (show ¬(lD f).1=_ from h),vx x y r];simp[dU,List.find?_cons,h']
inductive wz(C:Addr)(vs:List V)(H:Hp)(Q:VK)(u3:XK):Prop
 |mk (t:Addr) (x y:Str) (n:Nums) (fs:List Form) (dx l d:Addr) (xs:List V) (_:vs=[.ref t, .str x, .str y]) (_:kx H C t n fs dx l d xs) (_:∀H',ax H H'→Q (bA (dB n.same fs x y)) H'):wz C vs H Q u3
abbrev Ny:Str:=Str.ofString "abcdefghijklmnopqrstuvwxyz"
theorem GF:Ny.length=26:=by decide+kernel
theorem zR(zs:List Str){i:Int}(h0:0≤i)(h:i<(zs.length:Int)):∃m,m∈zs∧rj (zs.map V.str) i=some (.str m):=by
 obtain⟨j,rfl⟩:=Int.eq_ofNat_of_zero_le h0;have hj:j<zs.length:=Zz;exact⟨zs[j],List.getElem_mem hj,ar (by simp[hj])⟩
theorem oI(x y:Str):(x++y).cps.toList=x.cps.toList++y.cps.toList:=by
 show(x.cps++y.cps).toList=_;simp
def dG(H H':Hp):Prop:=∀t v,H t=some (.tup v)→H' t=some (.tup v)
theorem dG.same{H H':Hp}(s:ax H H'):dG H H':=fun t v h=>s _ _ h
theorem dG.lst{H:Hp}{l:Addr}{xs:List V}{o:HO}(h:H l=some (.lst xs)):dG H (upd H l o):=fun t v e=>by
 rw[ak (iX e h (by intro z;cases z))];exact e
theorem dP.cD{H H':Hp}{xs:List V}{fs:List Form}(T:dP H xs fs)(k:dG H H'):dP H' xs fs:=⟨T.1,fun i f e=>let ⟨b,h1,h2⟩:=T.2 i f e;⟨b,h1,k _ _ h2⟩⟩
theorem dP.snoc{H:Hp}{xs:List V}{fs:List Form}{t:Addr}{f:Form}(T:dP H xs fs)(ht:H t=some (.tup (J_ f))):dP H (xs++[.ref t]) (fs++[f]):=by
 refine⟨by simp[T.1],fun i g e=>?_⟩;by_cases h:i<fs.length
 ·rw[List.getElem?_append_left h]at e;obtain⟨b,h1,h2⟩:=T.2 i g e;exact⟨b,by rw[List.getElem?_append_left (by rw[T.1];exact h)];exact h1,h2⟩
 ·have hi:i=fs.length:=by
   have:=(Y' e).1;simp at this;omega
  subst hi;have hg:f=g:=by simpa using e
  subst hg;exact⟨t,by rw[←T.1];simp,ht⟩
theorem GG{n j:Nat}(h:j<n):DQ n (j:Int)=some j:=by
 unfold DQ;rw[if_pos Zw,if_pos Zw];simp
theorem GH:Ny.cps.toList=(List.range 26).map (97+·):=by decide+kernel
theorem Ei{r:Int}:rj Ny.cps.toList (r%26)=some (97+(r%26).toNat):=by
 have h0:0≤r%26:=Zz;have h1:r%26<26:=Zz;generalize r%26=m at h0 h1;obtain⟨j,rfl⟩:=Int.eq_ofNat_of_zero_le h0;refine ar ?_;have hj:j<26:=Zz;rw[GH];simp[hj]
theorem Be(r:Int):low (97+(r%26).toNat)=true:=by
 have h1:(r%26).toNat≤25:=Zz;simp[low];omega
def lows(z:Str):Prop:=z.cps.toList.all low=true
def j7(bS:Str)(cell other:Int)(k:Nat):Str:=
 let size:=1+cell/2%12
 if cell%2=1 then Txt.slice bS none (some (1+(size+k)%12))
 else Txt.slice bS none (some (other%size))++⟨#[97+((other/12+k)%26).toNat]⟩++Txt.slice bS (some (other%size+1)) (some size)
theorem wA{n d:Nat}{v:Int}(h0:0≤v)(h:v≤n):HT.ku n d (some v)=v.toNat:=by
 simp only[HT.ku];split<;>omega
theorem lE{z:Str}{v:Int}(h0:0≤v)(h:v≤z.length):(Txt.slice z none (some v)).cps.toList=z.cps.toList.take v.toNat:=by
 rw[vp,wA h0 h,HT.DO];simp
theorem Ej{z:Str}{u v:Int}(h0:0≤u)(h1:u≤v)(h:v≤z.length):(Txt.slice z (some u) (some v)).cps.toList=(z.cps.toList.drop u.toNat).take (v.toNat-u.toNat):=by
 rw[vp,wA h0 Zw,wA Zw h]
theorem len_list(z:Str):z.cps.toList.length=z.length:=by simp[Str.length]
theorem Ek{z:Str}(h1:1≤z.length)(h2:z.length≤12)(h:lows z):sP z=true:=by
 have h:z.cps.toList.all low=true:=h;simp[sP,h1,h2,h]
theorem El{bS:Str}(hl:bS.length=12)(hs:lows bS)(cell other:Int)(k:Nat):sP (j7 bS cell other k)=true:=by
 have mS:=List.all_eq_true.mp hs;have LS:=len_list bS;have z0:1≤1+cell/2%12∧1+cell/2%12≤12:=by lia
 unfold j7;simp only;generalize 1+cell/2%12=size at z0;split
 ·have z1:1≤1+(size+(k:Int))%12∧1+(size+(k:Int))%12≤12:=by lia
  generalize 1+(size+(k:Int))%12=m at z1;have e:=lE (z:=bS) (v:=m) (by lia) (by lia);have el:(Txt.slice bS none (some m)).length=m.toNat:=by rw[←len_list,e,List.length_take,LS];lia
  refine Ek Zx (by lia) ?_;unfold lows;rw[e,List.all_eq_true];exact fun c hc=>mS c (List.mem_of_mem_take hc)
 ·have z1:0≤other%size∧other%size<size:=⟨Int.emod_nonneg _ (by lia),Int.emod_lt_of_pos _ (by lia)⟩
  generalize other%size=jg at z1;have e1:=lE (z:=bS) (v:=jg) (by lia) (by lia);have e2:=Ej (z:=bS) (u:=jg+1) (v:=size) (by lia) (by lia) (by lia);have l1:(Txt.slice bS none (some jg)).length=jg.toNat:=by rw[←len_list,e1,List.length_take,LS];lia
  have l2:(Txt.slice bS (some (jg+1)) (some size)).length=size.toNat-(jg+1).toNat:=by rw[←len_list,e2,List.length_take,List.length_drop,LS];lia
  have el:(Txt.slice bS none (some jg)++(⟨#[97+((other/12+(k:Int))%26).toNat]⟩:Str)++Txt.slice bS (some (jg+1)) (some size)).length=size.toNat:=by
   rw[len_app,len_app,l1,l2];show jg.toNat+1+_=_
   lia
  refine Ek Zx (by lia) ?_;unfold lows;rw[oI,oI,e1,e2,List.all_append,List.all_append];have a1:(bS.cps.toList.take jg.toNat).all low=true:=List.all_eq_true.mpr fun c hc=>mS c (List.mem_of_mem_take hc)
  have a2:((bS.cps.toList.drop (jg+1).toNat).take (size.toNat-(jg+1).toNat)).all low=true:=List.all_eq_true.mpr fun c hc=>mS c (List.mem_of_mem_drop (List.mem_of_mem_take hc))
  have a3:=Be (other/12+(k:Int));rw[a1,a2];simp[a3]
theorem Kc{A B:List Nat}{c:Nat}:(A++[c]++B)[A.length]?=some c:=ZD
theorem Em{bS:Str}(hl:bS.length=12)(cell other:Int){k k':Nat}(hk:k<12)(En:k'<12)(e:j7 bS cell other k=j7 bS cell other k'):k=k':=by
 have LS:=len_list bS;have z0:1≤1+cell/2%12∧1+cell/2%12≤12:=by lia
 unfold j7 at e;simp only at e;generalize 1+cell/2%12=size at z0 e;split at e
 ·have e:=congrArg (fun z:Str=>z.cps.toList.length) e;rw[lE Zx (by lia),lE Zx (by lia),List.length_take,List.length_take,LS,hl]at e
  lia
 ·have z1:0≤other%size∧other%size<size:=⟨Int.emod_nonneg _ (by lia),Int.emod_lt_of_pos _ (by lia)⟩
  generalize other%size=jg at z1 e;have e1:=lE (z:=bS) (v:=jg) (by lia) (by lia);have l1:(bS.cps.toList.take jg.toNat).length=jg.toNat:=by rw[List.length_take,LS];lia
  have at_:∀c:Nat,(Txt.slice bS none (some jg)++(⟨#[c]⟩:Str)++Txt.slice bS (some (jg+1)) (some size)).cps.toList[jg.toNat]?=some c:=fun c=>by
   rw[oI,oI,e1];have:=Kc (A:=bS.cps.toList.take jg.toNat) (B:=(Txt.slice bS (some (jg+1)) (some size)).cps.toList) (c:=c);rw[l1]at this;exact this
  have e:=congrArg (fun z:Str=>z.cps.toList[jg.toNat]?) e;have e2:=(at_ _).symm.trans (e.trans (at_ _));have e3:=Zt e2
  lia
theorem zS{bS:Str}(hl:bS.length=12)(cell other:Int){n:Nat}(hn:n≤12):((List.range n).map (j7 bS cell other)).Nodup:=by
 refine List.pairwise_map.mpr ?_;refine List.Pairwise.imp_of_mem (R:=fun a b=>a≠b) (fun{a b} ha hb h e=>h ?_) List.nodup_range;exact Em hl cell other (by have:=List.mem_range.mp ha;omega) (by have:=List.mem_range.mp hb;omega) e
inductive wB(vs:List V)(H:Hp)(Q:VK)(u3:XK):Prop
 |mk (cell other many:Int) (_:vs=[.int cell, .int other, .int many]) (_:0≤many) (_:many≤12) (_:∀H' b (zs:List Str),ax H H'→H b=none→H' b=some (.lst (zs.map V.str))→zs.length=many.toNat→(∀z∈zs,sP z=true)→zs.Nodup→Q (.ref b) H'):wB vs H Q u3
structure cX(zs:List Str)(i j:Nat)(fs:List Form):Prop where
 ok:∀f∈fs,De f=true
 nd:(fs.map k_).Nodup
 old:∀f∈fs,∃i' j',(i'<i∨(i'=i∧j'<j))∧zs[i']?=some f.1∧zs[j']?=some f.2.1
 sI:fs.length+(if i<j then 1 else 0)≤i*(zs.length-1)+j
theorem cX.nil{zs:List Str}:cX zs 0 0 []:=⟨ZD,ZD,ZD,ZD⟩
theorem cX.skip{zs:List Str}{i j:Nat}{fs:List Form}(p:cX zs i j fs):cX zs i (j+1) fs:=by
 refine⟨p.ok,p.nd,fun f hf=>?_,?_⟩
 ·obtain⟨i',j',h,r⟩:=p.old f hf;exact⟨i',j',Zz,r⟩
 ·have:=p.sI;split<;>split at this<;>omega
theorem yr{zs:List Str}(hn:zs.Nodup){i j:Nat}{x:Str}(h1:zs[i]?=some x)(h2:zs[j]?=some x):i=j:=by
 obtain⟨a1,b1⟩:=Y' h1;obtain⟨a2,b2⟩:=Y' h2;exact(List.getElem_inj hn).mp (b1.trans b2.symm)
theorem cX.add{zs:List Str}{i j:Nat}{fs:List Form}(p:cX zs i j fs)(hn:zs.Nodup)(hw:∀z∈zs,sP z=true){x y:Str}(hx:zs[i]?=some x)(hy:zs[j]?=some y)(eR:¬x=y){pr:Int}(h0:0≤pr)(h1:pr≤999999):
  cX zs i (j+1) (fs++[(x,y,pr)]):=by
 have uh:i≠j:=fun e=>eR (by subst e;rw[hx]at hy;exact Zt hy)
 refine⟨fun f hf=>?_,?_,fun f hf=>?_,?_⟩
 ·rcases List.mem_append.mp hf with h|h
  ·exact p.ok f h
  ·have h:f=(x,y,pr):=by simpa using h
   rw[h];have a1:=hw x (Zk hx);have a2:=hw y (Zk hy);simp[De,iz,a1,a2,eR,inR,h0,h1]
 ·rw[List.map_append];refine List.nodup_append.mpr ⟨p.nd,ZD,fun a ha b hb e=>?_⟩;have hb:b=k_ (x,y,pr):=by simpa using hb
  rw[e,hb]at ha;obtain⟨f,hf,ef⟩:=List.mem_map.mp ha;obtain⟨e1,e2⟩:=(wu f x y).mp ef;obtain⟨i',j',h,r1,r2⟩:=p.old f hf;rw[e1]at r1;rw[e2]at r2;have:=yr hn r1 hx;have:=yr hn r2 hy;omega
 ·rcases List.mem_append.mp hf with h|h
  ·obtain⟨i',j',h,r⟩:=p.old f h;exact⟨i',j',Zz,r⟩
  ·have h:f=(x,y,pr):=by simpa using h
   rw[h];exact⟨i,j,Zz,hx,hy⟩
 ·have:=p.sI;rw[List.length_append];show fs.length+1+_≤_;split<;>split at this<;>omega
theorem cX.row{zs:List Str}{i:Nat}{fs:List Form}(p:cX zs i zs.length fs)(hi:i<zs.length):cX zs (i+1) 0 fs:=by
 refine⟨p.ok,p.nd,fun f hf=>?_,?_⟩
 ·obtain⟨i',j',h,r⟩:=p.old f hf;exact⟨i',j',Zz,r⟩
 ·have h:=p.sI;rw[Zp hi]at h;rw[if_neg Zw,Nat.succ_mul];omega
theorem cX.good{zs:List Str}{fs:List Form}(p:cX zs zs.length 0 fs)(h:zs.length≤8):bM fs=true:=by
 have h1:=p.sI;have h2:zs.length*(zs.length-1)≤8*7:=Nat.mul_le_mul h Zw;rw[if_neg Zw]at h1;have h3:fs.length≤60:=Zz;have h4:fs.all De=true:=List.all_eq_true.mpr p.ok;simp[bM,h3,h4,p.nd]
theorem Z_{fs:List Form}(h:bM fs=true):Short fs:=by
 simp only[bM,Bool.and_eq_true,decide_eq_true_eq,List.all_eq_true]at h;refine⟨Zz,fun f hf=>?_⟩;have h1:=h.1.2 f hf;simp only[De,iz,sP,Bool.and_eq_true,decide_eq_true_eq]at h1;omega
inductive wC(vs:List V)(H:Hp)(Q:VK)(u3:XK):Prop
 |mk (cell same:Int) (b:Addr) (zs:List Str) (_:vs=[.int cell, .ref b, .int same]) (_:H b=some (.lst (zs.map V.str))) (_:zs.length≤8) (_:(∀z∈zs,sP z=true)) (_:zs.Nodup) (_:1≤same) (_:same≤999999) (_:∀H' l xs fs,ax H H'→H l=none→H' l=some (.lst xs)→dP H' xs fs→bM fs=true→Q (.ref l) H'):wC vs H Q u3
inductive sR(vs:List V)(H:Hp)(Q:VK)(u3:XK):Prop
 |mk (x y:Str) (same:Int) (l:Addr) (xs:List V) (fs:List Form) (_:vs=[.str x, .str y, .int same, .ref l]) (_:H l=some (.lst xs)) (_:dP H xs fs) (_:Q (bA (dB same fs x y)) H):sR vs H Q u3
theorem mh{zs:List Str}{i:Nat}{v:V}(h:(zs.map V.str)[i]?=some v):∃x,zs[i]?=some x∧v= .str x:=by
 rw[List.getElem?_map]at h;cases e:zs[i]? with
 |none=>rw[e]at h;cases h
 |some x=>rw[e]at h;exact⟨x,rfl,(Zt h).symm⟩
theorem Eo{fs:List Form}{x y:Str}(h:∀f∈fs,¬(f.1=x∧f.2.1=y)):dU fs x y=none:=by
 have:fs.find? (fun f=>decide (f.1=x∧f.2.1=y))=none:=by
  rw[List.find?_eq_none];intro f hf;simpa using h f hf
 unfold dU;rw[this];rfl
theorem rl:∀{fs:List Form}{i:Nat}{x y x0 y0:Str}{p:Int},fs[i]?=some (x0,y0,p)→(∀f∈fs.take i,¬(f.1=x∧f.2.1=y))→(x0=x∧y0=y)→dU fs x y=some p
 |f::r,0,x,y,x0,y0,p,h,_,e=>by
  have h:f=(x0,y0,p):=by simpa using h
  rw[h];simp[dU,List.find?_cons,e.1,e.2]
 |f::r,i+1,x,y,x0,y0,p,h,hn,e=>by
  have h1:¬(f.1=x∧f.2.1=y):=hn f Zu;have:=rl (fs:=r) (i:=i) (x:=x) (y:=y) (by simpa using h) (fun g hg=>hn g (by simp[hg])) e;simpa[dU,List.find?_cons,h1]using this
def sw(f:Form):Form:=(f.2.1,f.1,f.2.2)
inductive nj(K:W.Frag)(vs:List V)(H:Hp)(Q:VK)(u3:XK):Prop
 |mk (a:Addr) (ns:List Int) (k:Int) (_:vs=[.ref a, .int k]) (_:iC K H a (ns.map V.int)) (_:0≤k) (_:∀H' D (s o i l:Int),ax H H'→H D=none→H' D=some (.lst [.int s, .int o, .int i, .int l])→(1≤s∧s≤999999)→(0≤o∧o≤999999)→(0≤i∧i≤999999)→(1≤l∧l≤999999)→Q (.ref D) H'):nj K vs H Q u3
theorem kx.same{H H':Hp}{C x:Addr}{n:Nums}{fs:List Form}{dx l d:Addr}{xs:List V}(T:kx H C x n fs dx l d xs)(s:ax H H'):kx H' C x n fs dx l d xs:=⟨s _ _ T.ob,s _ _ T.own,s _ _ T.li,T.tr.same s,s _ _ T.di⟩
theorem GI{is:List Int}(h:is.length=4):∃a b c d,is=[a,b,c,d]:=by
 match is,h with
 |[a,b,c,d],_=>exact⟨a,b,c,d,rfl⟩
theorem SameBut.ZI{x dx C:Addr}{H H':Hp}(hx:H x=none)(Ep:H dx=none)(s:SameBut x (L2.upd (L2.upd H dx (.own x)) x (.ins C dx [])) H'):ax H H':=fun b u e=>by
 have n1:b≠x:=aD e hx;have n2:b≠dx:=aD e Ep;exact s b u n1 (by rw[ak n1,ak n2];exact e)
end QF
namespace L2
open PySem PySem.Spec PyProof.Rows PySem.W PySem.Calls
section
variable{X:Cx}{pins:List (Addr×Obj)}{σ:St}{H:Hp}{s:Shared}{h':Heap}
theorem Inv.GJ{t':Nat}{fp:List Addr}(I:Inv X pins σ H s)(hf:∀b∈fp,iu X pins H b)(k:∀b o,b∉fp→s.heap.get? b=some o→h'.get? b=some o):Inv X pins σ H {s with heap:=h',toks:=t'}:=by
 have HN:∀b u,H b=some u→b∉fp:=fun b u e z=>by rw[(hf b z).1]at e;cases e
 refine I.step (g':=s.gens) (d':=s.drawn) (ch:=fp) (fun b hb=>?_) (fun b o _ _ hc e _=>k b o hc e) (fun b o _ _ hc e _=>⟨o.slots,k b o hc e⟩) (fun _ _ _ _ n=>n)
  (fun b o hc e=>⟨o,k b o hc e⟩) (fun _ _ e=>e) (fun _ _ _ e=>e) (fun b ps e=>⟨#[],by rw[e];simp⟩) (fun m hm=>?_) (fun b u e=>?_) I.bare
 ·obtain⟨_,f1,_,f3,f4,f5⟩:=hf b hb;exact⟨f3,f1,f4,f5⟩
 ·obtain⟨o,es,ep,ho,r⟩:=hm;exact⟨o,es,ep,k _ o (fun z=>(hf _ z).2.1 rfl) ho,r⟩
 ·refine(I.bX b u e).vO (fun c v hc q=>k c v ?_ q) (fun _ q=>q) fun _ _ q=>q
  rcases hc with z|z
  ·rw[z];exact HN b u e
  ·exact HN c _ z
theorem Inv.Bf{t':Nat}{fp:List Addr}{T:Addr}{u:HO}(I:Inv X pins σ H s)(hf:∀b∈fp,iu X pins H b)(hT:iu X pins H T)(k:∀b o,b∉fp→s.heap.get? b=some o→h'.get? b=some o)
  (new:cO X.prog X.w (upd H T u) h' T u):Inv X pins σ (upd H T u) {s with heap:=h',toks:=t'}:=by
 have HN:∀b u,H b=some u→b∉fp:=fun b u e z=>by rw[(hf b z).1]at e;cases e
 have nT:∀b v,H b=some v→b≠T:=fun b v e z=>by rw[z,hT.1]at e;cases e
 refine I.step (g':=s.gens) (d':=s.drawn) (ch:=T::fp) (fun b hb=>?_) (fun b o _ _ hc e _=>k b o (fun z=>hc (List.mem_cons_of_mem _ z)) e) (fun b o _ _ hc e _=>⟨o.slots,k b o (fun z=>hc (List.mem_cons_of_mem _ z)) e⟩) (fun b _ hc _ n=>?_)
  (fun b o hc e=>⟨o,k b o (fun z=>hc (List.mem_cons_of_mem _ z)) e⟩) (fun b xs e=>by rw[ak (nT b _ e)];exact e) (fun b o v e=>by rw[ak (nT b _ e)];exact e) (fun b ps e=>⟨#[],by rw[ak (nT b _ e),e];simp⟩) (fun m hm=>?_) (fun b v e=>?_) I.bare
 ·rcases List.mem_cons.mp hb with z|z
  ·subst z;obtain⟨_,f1,_,f3,f4,f5⟩:=hT;exact⟨f3,f1,f4,f5⟩
  ·obtain⟨_,f1,_,f3,f4,f5⟩:=hf b z;exact⟨f3,f1,f4,f5⟩
 ·rw[ak (fun z=>hc (by simp[z]))];exact n
 ·obtain⟨o,es,ep,ho,r⟩:=hm;exact⟨o,es,ep,k _ o (fun z=>(hf _ z).2.1 rfl) ho,r⟩
 ·by_cases hb:b=T
  ·subst hb;rw[ae]at e;cases e;exact new
  ·rw[ak hb]at e;refine(I.bX b v e).vO (fun c v' hc q=>k c v' ?_ q) (fun c q=>by rw[ak (nT c _ q)];exact q) fun c xs q=>by rw[ak (nT c _ q)];exact q
   rcases hc with z|z
   ·rw[z];exact HN b v e
   ·exact HN c _ z
theorem Inv.swap{d:Addr}{u u':HO}(I:Inv X pins σ H s)(e:H d=some u)(ht:∀xs,u≠ .tup xs)(ho:∀x,u≠ .own x)(hb:∀ps,u≠ .FY ps)(hf:∀o v,X.eU d≠some (.r9 o v))(new:cO X.prog X.w (upd H d u') s.heap d u'):Inv X pins σ (upd H d u') s:=by
 have nd:∀b,H b=none→b≠d:=fun b n z=>by rw[z,e]at n;cases n
 have nt:∀b xs,H b=some (.tup xs)→b≠d:=fun b xs q z=>by rw[z,e]at q;cases q;exact ht xs rfl
 have no:∀b x,H b=some (.own x)→b≠d:=fun b xs q z=>by rw[z,e]at q;cases q;exact ho xs rfl
 refine⟨I.ok,I.os,I.bare,⟨I.base.keep,I.base.slot,fun b o q n hx=>?_,I.base.there,fun b xs q=>?_,fun b o v q=>?_,fun b ps q=>?_⟩,I.loc,I.cell,?_,fun x c q=>?_,fun p hp=>?_,fun b v q=>?_,I.len⟩
 ·have z:=I.base.free b o q n hx;rw[ak (nd b z)];exact z
 ·have z:=I.base.cD b xs q;rw[ak (nt b xs z)];exact z
 ·have z:=I.base.n9 b o v q;rw[ak (fun y=>by subst y;exact hf o v q)];exact z
 ·obtain⟨m,z⟩:=I.base.rG b ps q;exact⟨m,by rw[ak (fun y=>by rw[y,e]at z;cases z;exact hb _ rfl)];exact z⟩
 ·rw[ak (nd _ I.free)];exact I.free
 ·rw[ak (nd _ (I.mO x c q))];exact I.mO x c q
 ·obtain⟨p1,p2,p3⟩:=I.pin p hp;exact⟨p1,by rw[ak (nd _ p2)];exact p2,p3⟩
 ·by_cases T_:b=d
  ·subst T_;rw[ae]at q;cases q;exact new
  ·rw[ak T_]at q;exact(I.bX b v q).vO (fun c v' _ z=>z) (fun c z=>by rw[ak (no c _ z)];exact z) fun c xs z=>by rw[ak (nt c _ z)];exact z
end
def LU(K:Frag)(a:Addr):It:=
 ⟨fun i H=>∃xs x,iC K H a xs∧xs[i]?=some x,fun i H x H'=>∃T y,x= .ref T∧H T=none∧H'=upd H T (.tup [.int i,y])∧∀xs,iC K H a xs→xs[i]?=some y,fun i H=>∃xs,iC K H a xs∧xs.length≤i⟩
theorem Ci{P:Program}{w:World}{K:Frag}{elts:List Expr}{n:Nat}{pos:Pos}(a e it:Addr)(eR:e≠it):
  Turn P w K (.Tuple elts n pos) (LU K a) [e,it] e (fun i h=>(∃old,IsEnum h e it (i:Nat) old)∧h.IsListIter it a i) where
 mem:=ZD
 obj:=fun i h st b hb=>by
  obtain⟨⟨old,s1⟩,o,s2,_,s3⟩:=st;rcases List.mem_cons.mp hb with z|z
  ·subst z;exact⟨_,s1,fun v z=>by
    have z':Data.fields _=Data.cell v:=z;cases z'⟩
  ·have e:b=it:=by simpa using z
   subst e;exact⟨o,s2,fun v z=>by rw[s3]at z;cases z⟩
 keep:=fun i h h' st k=>⟨⟨st.1.choose,k e Zu _ st.1.choose_spec⟩,st.2.at fun o q=>k it (ZD) o q⟩
 item:=by
  intro X hP hw hK hc i pins s σ H E I hf st hg;subst hP hw hK;obtain⟨xs,x,hq,hx⟩:=hg;obtain⟨⟨old,s1⟩,s2⟩:=st;obtain⟨its,rv,p,hz⟩:=I.list hq;obtain⟨u,hu,ru⟩:=rv.get hx;refine wpAny_pyNext_enum_item s1 s2 p.isList (x:=u) (by simpa using hu) eR fun h' o1 o2 o3 o4 o5=>?_
  refine⟨_,rfl,wpAny_letOwnedTupleGo_enum (s:={s with heap:=h',toks:=s.toks+1}) o1 fun h2 q1 q2=>?_⟩;have sJ:h2.get? s.heap.objs.size=some {cls:=Value.type "tuple",data:=Data.seq #[Value.int (↑i) s.toks,u]}:=by
   exact(q2.2 _ (Nat.ne_of_gt (Heap.lt_size s1))).trans o3
  have hT:iu X pins H s.heap.objs.size:=I.uo (Nat.le_refl _) (I.bX.fresh (Nat.le_refl _));have I1:Inv X pins σ (upd H s.heap.objs.size (.tup [.int i,x])) {s with heap:=h2,toks:=s.toks+1}:=by
   refine I.Bf hf hT (fun b o hb q=>?_) ⟨by simp[sizeLine],[Value.int (↑i) s.toks,u], .cons ⟨_,rfl⟩ (.cons ru .nil),?_⟩
   ·have b1:b≠e:=fun z=>hb (by simp[z])
    have b2:b≠it:=fun z=>hb (by simp[z])
    exact(q2.2 b b1).trans (o5 b o b1 b2 q)
   ·exact⟨_,sJ,rfl,_,rfl⟩
  refine⟨.ref s.heap.objs.size,_,I1,rfl,⟨_,x,rfl,hT.1,rfl,fun ys hy=>by rw[I.yc hy hq];exact hx⟩,⟨⟨u,by simpa using q1⟩,o2.at fun o q=>(q2.2 it (Ne.symm eR)).trans q⟩,fun b hb=>?_⟩;rw[ak (fun z=>?_)]
  ·exact(hf b hb).1
  ·have h1:=Heap.lt_size s1;obtain⟨_,h2,_⟩:=s2;have h3:=Heap.lt_size h2;rcases List.mem_cons.mp hb with y|y
   ·rw[z.symm.trans y]at h1;exact absurd h1 (Nat.lt_irrefl _)
   ·have:b=it:=by simpa using y
    rw[z.symm.trans this]at h3;exact absurd h3 (Nat.lt_irrefl _)
 done:=by
  intro X hP hw hK hc i pins s σ H E I hf st hg;subst hP hw hK;obtain⟨xs,hq,hx⟩:=hg;obtain⟨⟨old,s1⟩,s2⟩:=st;obtain⟨its,rv,p,hz⟩:=I.list hq;have hl:=rv.length;exact wpAny_pyNext_enum_end (I.ok.hd hc) s1 s2 p.isList (by simp;omega) fun h' eb=>⟨rfl,I.GJ (t':=s.toks) hf (fun b o hb q=>eb b o (fun z=>hb (by simp[z])) q)⟩
 self:=fun _ _ _ _ _ st h=>wpAny_pyIter_enum st.1.choose_spec h
section
variable{X:Cx}{tg:Expr}
def Im(K:Frag)(ta:TA):TI:=fun σ H R=>ta σ H fun vs H1=>∃a,vs=[.ref a]∧(∃xs,iC K H1 a xs)∧R (LU K a) H1
theorem GK{elts:List Expr}{n:Nat}{tp:Pos}{a:Expr}{ta:TA}{p pos:Pos}(hg:Gl X "enumerate")(hm:X.mg "enumerate"=none)(ha:PA X [a] ta)(hs:starEach [a] X.env=[(false,eval a X.env)]:=by rfl):
  PI X (.Tuple elts n tp) (.Call (.Name "enumerate" p) [a] [] pos) (Im X.K ta):=by
 intro pins s σ H R I h;refine Call_ (lu I hg hm boot_enumerate (PyProof.Rows.callWith_type1 (cH (ha pos pins s σ H _ I h) fun us s1 ⟨vs,H1,I1,r1,q1⟩=>?_) hs rfl));obtain⟨l,e,⟨xs,hq⟩,q⟩:=q1;subst e;cases r1 with
 |cons r rr=>
  cases rr;cases r;obtain⟨its,rv,p,hz⟩:=I1.list hq;refine call_enumerate_list p.isList fun h' o1 o2 o3 o4=>?_
  refine wpAny_pyIter_enum (s:={s1 with heap:=h'}) o1 ?_;refine⟨s1.heap.objs.size+1,[s1.heap.objs.size+1,s1.heap.objs.size],_,_,H1,rfl,I1.kept (t':=s1.toks) o4,Ci l _ _ (Nat.succ_ne_self _),⟨⟨_,o1⟩,o2⟩,fun b hb=>?_,q⟩;have LV:s1.heap.objs.size≤b:=by
   rcases List.mem_cons.mp hb with y|y
   ·rw[y];exact Nat.le_succ _
   ·have:b=s1.heap.objs.size:=by simpa using y
    exact Nat.le_of_eq this.symm
  exact I1.uo LV (I1.bX.fresh LV)
end
theorem oJ{X:Cx}(K:Frag){elts:List Expr}{n:Nat}{tp:Pos}{a:Expr}{ta:TA}{p pos:Pos}(hg:Gl X "enumerate")(hm:X.mg "enumerate"=none)(ha:PA X [a] ta)(hs:starEach [a] X.env=[(false,eval a X.env)]:=by rfl)(h:X.K=K:=by rfl):
  PI X (.Tuple elts n tp) (.Call (.Name "enumerate" p) [a] [] pos) (Im K ta):=h▸GK hg hm ha hs
theorem yt{K:Frag}{a:Addr}{xs:List V}{g:TG}{tb:TS}{D:Ends}{σ:St}{H:Hp}(Pv:Nat→St→Hp→Prop)(h0:Pv 0 σ H)(hl:∀i σ H,i≤xs.length→Pv i σ H→iC K H a xs)
  (hs:∀i x T σ H,xs[i]?=some x→Pv i σ H→H T=none→g (.ref T) σ (upd H T (.tup [.int i,x])) fun fZ H2=>tb {D with nx:=Pv (i+1),ct:=Pv (i+1),bk:=D.nx} fZ H2) (hd:∀σ H,Pv xs.length σ H→D.nx σ H):
  ∃W:Nat→Nat→St→Hp→Prop,(∃m,W 0 m σ H)∧∀i m σ H,W i m σ H→
   ((LU K a).stop i H∧D.nx σ H)∨((LU K a).go i H∧∃N:St→Hp→Prop,(∀bD H',N bD H'→∃m',m'<m∧W (i+1) m' bD H')∧∀x H',(LU K a).F1 i H x H'→g x σ H' fun fZ H2=>tb {D with nx:=N,ct:=N,bk:=D.nx} fZ H2):=by
 refine⟨fun i m σ H=>m=xs.length-i∧i≤xs.length∧Pv i σ H,⟨xs.length,ZD,Nat.zero_le _,h0⟩,?_⟩;rintro i m σ H ⟨rfl,hi,p⟩;have hq:=hl i σ H hi p;by_cases hZ:i<xs.length
 ·refine .inr ⟨⟨xs,xs[i],hq,by simp[hZ]⟩,Pv (i+1),fun bD H' p'=>⟨xs.length-(i+1),Zz,rfl,hZ,p'⟩,fun x H' y=>?_⟩;obtain⟨T,y,rfl,hT,rfl,hy⟩:=y;exact hs i y T σ H (hy xs hq) p hT
 ·have e:i=xs.length:=Zz;subst e;exact .inl ⟨⟨xs,hq,Nat.le_refl _⟩,hd σ H p⟩
def NF(eU:Hp)(d:Addr):Prop:=∀o v,eU d≠some (.r9 o v)
section
variable{X:Cx}{tg:Expr}
end
end L2
namespace QF
open PySem L2
inductive wD(K:W.Frag)(vs:List V)(H:Hp)(Q:VK)(u3:XK):Prop
 |mk (a b:Addr) (ns:List Int) (zs:List Str) (c p m:Int) (_:vs=[.ref a, .int c, .int p, .int m, .ref b]) (_:iC K H a (ns.map V.int)) (_:H b=some (.lst (zs.map V.str))) (_:(1≤zs.length∧zs.length≤1000)) (_:0≤p) (_:0≤m) (_:m≤1000) (_:∀H' l (ws:List Str),ax H H'→H l=none→H' l=some (.lst (ws.map V.str))→ws.length=m.toNat→(∀w∈ws,w∈zs)→Q (.ref l) H'):wD K vs H Q u3
end QF
namespace L2
open PySem PySem.Spec PyProof.Rows PySem.W PySem.Calls
section
variable{X:Cx}
theorem GL(K:Frag){T:String}{name:Str}{id:String}{r:V→List V→Hp→VK→Prop}{o:Expr}{apos eD:Pos}{to:TE}(pa:PlainAttrs T)(slot:Slot T name id)(Dd:typeOf (.builtin id)=pure (.type "method_descriptor"))(hm:OY X id r)(ho:PE X o to)
  (oz:attributeBase o name X.env (eval o X.env)=eval o X.env:=by rfl) (oA:(apos.endLine==eD.line)=true:=by rfl) (hK:X.K=K:=by rfl):PE X (.Call (.Attribute o name apos) [] [] eD) (M8 K T r to):=hK▸JY pa slot Dd hm ho oz oA
end
end L2
namespace QF
open PySem L2
def Q4(c:Nat):Bool:=decide (65≤c)&&decide (c≤90)
def conv(c:Nat):Nat:=if low c=true then c else if Q4 c=true then c+32 else 32
abbrev great:Str:=Str.ofString "ABCDEFGHIJKLMNOPQRSTUVWXYZ"
def rd(st:KWd.St)(cs:List Nat):KWd.St:=(cs.map conv).foldl KWd.step st
abbrev both:Str:=Str.ofString "abcdefghijklmnopqrstuvwxyzABCDEFGHIJKLMNOPQRSTUVWXYZ"
abbrev marks:Str:=Str.ofString " .,-'0123456789!?()[]{}@`_~/:;<=>#$&*+|^\\\""
end QF
namespace L2
open PySem PySem.Spec PyProof.Rows PySem.W PySem.Calls
section
variable{X:Cx}
def Ua(xs ys:List V)(f:Nat→Bool):Prop:=∀(j:Nat)(x y:V),xs[j]?=some x→ys[j]?=some y→(rk x=true∧rk y=true∧f j=v5 x y)∨(∃a,x= .ref a∧y= .ref a∧f j=true)
theorem Es{A:Around}{s:Shared}{xs ys:List V}{its eE:List Value}{f:Nat→Bool}(r:Vals xs its)(r2:Vals ys eE)(h:Ua xs ys f):
  ∀j (h1:j<its.toArray.size) (h2:j<eE.toArray.size),SeqAt.EqAt A s its.toArray[j] eE.toArray[j] (f j):=fun j h1 h2=>by
 have Io:j<xs.length:=by have:=r.length;simp at h1;omega
 have Iq:j<ys.length:=by have:=r2.length;simp at h2;omega
 obtain⟨a1,e1,q1⟩:=r.get (i:=j) (x:=xs[j]) (by simp[Io]);obtain⟨a2,e2,q2⟩:=r2.get (i:=j) (x:=ys[j]) (by simp[Iq]);have g1:its.toArray[j]=a1:=by simpa[List.getElem?_eq_some_iff]using(Y' e1).2
 have g2:eE.toArray[j]=a2:=by simpa[List.getElem?_eq_some_iff]using(Y' e2).2
 rw[g1,g2];rcases h j xs[j] ys[j] (by simp[Io]) (by simp[Iq])with⟨f1,f2,ef⟩|⟨a,ex,ey,ef⟩
 ·rw[ef];exact v7 q1 q2 f1 f2
 ·rw[ef];rw[ex]at q1;rw[ey]at q2;cases q1;cases q2;exact SeqAt.EqAt.same _
inductive Nz(K:Frag)(x:V)(y:V)(H:Hp)(Q:VK):Prop
 |mk (p:_) (q:_) (xs:_) (ys:_) (f:_) (_:x= .ref p) (_:y= .ref q) (_:iC K H p xs) (_:iC K H q ys) (_:Ua xs ys f) (_:Q (.bl (decide (xs.length=ys.length)&&(List.range xs.length).all f)) H):Nz K x y H Q
theorem yu(K:Frag)(hu:X.A.units<cLine)(hK:X.K=K:=by rfl):rH X (compareOp .Eq) (Nz K):=by
 subst hK;intro pins s σ H x y v u Q I rx ry h;obtain⟨p,q,xs,ys,f,rfl,rfl,hp,hq,hf,k⟩:=h;cases rx;cases ry;obtain⟨its,r,pl,hz⟩:=I.list hp;obtain⟨eE,r2,GD,LR⟩:=I.list hq;have l1:=r.length;have l2:=r2.length;obtain⟨⟨cls,dd,data,sl⟩,ho,hc,n,hd⟩:=id pl.isList;obtain⟨⟨Kb,Eh,data2,xQ⟩,xR,ug,n2,hd2⟩:=id GD.isList;simp only at hc hd ug hd2;subst hc hd ug hd2;by_cases e:xs.length=ys.length
 ·have hsz:its.toArray.size=eE.toArray.size:=by rw[List.size_toArray,List.size_toArray];omega
  refine richCompare_meets_room (op:= .Eq) ⟨_,ho,rfl⟩ ⟨_,xR,rfl⟩ F.slot_list_eq F.entry_list_eq (F.args_list_eq_2 _ _) (SeqAt.list_eqAt p q its.toArray eE.toArray n n2 dd Eh sl xQ hsz f) ⟨ho,xR,Es r r2 hf,?_⟩ hu;rw[decide_eq_true e,Bool.true_and]at k;refine⟨(fun x=>nomatch x), .bl ((List.range xs.length).all f),H,I,?_,k⟩;rw[List.size_toArray,←l1];rfl
 ·have hsz:(its.toArray.size !=eE.toArray.size)=true:=by
   rw[List.size_toArray,List.size_toArray];simp;omega
  refine richCompare_meets_room (op:= .Eq) ⟨_,ho,rfl⟩ ⟨_,xR,rfl⟩ F.slot_list_eq F.entry_list_eq (F.args_list_eq_2 _ _) (SeqAt.list_eq_lengthsAt p q its.toArray eE.toArray n n2 dd Eh sl xQ hsz) ⟨ho,xR,?_⟩ hu;rw[decide_eq_false e,Bool.false_and]at k;exact⟨(fun x=>nomatch x), .bl false,H,I,rfl,k⟩
end
section
variable{X:Cx}
end
end L2
namespace QF
open PySem L2
abbrev Pr:=Int×Int
def jr(p:Pr):List V:=[.int p.1, .int p.2]
def gI(H:Hp)(vs:List V)(ps:List Pr):Prop:=vs.length=ps.length∧∀(i:Nat)(p:Pr),ps[i]?=some p→∃t,vs[i]?=some (V.ref t)∧H t=some (.tup (jr p))
theorem gI.nil{H:Hp}:gI H [] []:=⟨rfl,fun i f e=>by simp at e⟩
theorem gI.cD{H H':Hp}{xs:List V}{fs:List Pr}(T:gI H xs fs)(k:dG H H'):gI H' xs fs:=⟨T.1,fun i f e=>let ⟨b,h1,h2⟩:=T.2 i f e;⟨b,h1,k _ _ h2⟩⟩
theorem gI.same{H H':Hp}{xs:List V}{fs:List Pr}(t:gI H xs fs)(s:ax H H'):gI H' xs fs:=t.cD (dG.same s)
theorem gI.append{H:Hp}{xs ys:List V}{fs gs:List Pr}(T:gI H xs fs)(U:gI H ys gs):gI H (xs++ys) (fs++gs):=by
 refine⟨by simp[T.1,U.1],fun i p e=>?_⟩;by_cases h:i<fs.length
 ·rw[List.getElem?_append_left h]at e;obtain⟨b,h1,h2⟩:=T.2 i p e;exact⟨b,by rw[List.getElem?_append_left (by rw[T.1];exact h)];exact h1,h2⟩
 ·rw[List.getElem?_append_right Zw]at e;obtain⟨b,h1,h2⟩:=U.2 _ p e;exact⟨b,by rw[List.getElem?_append_right (by rw[T.1];omega),T.1];exact h1,h2⟩
theorem gI.one{H:Hp}{t:Addr}{p:Pr}(ht:H t=some (.tup (jr p))):gI H [.ref t] [p]:=by
 refine⟨rfl,fun i q e=>?_⟩
 match i,e with
 |0,e=>cases e;exact⟨t,rfl,ht⟩
 |i+1,e=>simp at e
def pr(ps:List Pr)(k:Nat):Pr:=ps.getD k (0,0)
theorem Ir{ps:List Pr}{k:Nat}(h:k<ps.length):ps[k]?=some (pr ps k):=by
 simp[pr,h]
theorem gI.Kd{H:Hp}{xs:List V}{ps:List Pr}(T:gI H xs ps){k:Nat}(h:k<ps.length):∃t,xs[k]?=some (V.ref t)∧H t=some (.tup [.int (pr ps k).1, .int (pr ps k).2]):=T.2 k _ (Ir h)
theorem gW{ps:List Pr}{p:Pr}{k:Nat}(h:k<ps.length):pr (ps++[p]) k=pr ps k:=by
 simp[pr,List.getD_eq_getElem?_getD,List.getElem?_append_left h]
theorem si{ps:List Pr}{p:Pr}:pr (ps++[p]) ps.length=p:=by
 simp[pr,List.getD_eq_getElem?_getD]
structure Case where
 xs:List Str
 ys:List Str
 same:Int
 out:Int
 into:Int
 least:Int
 fs:List Form
structure jt(H:Hp)(a:Addr)(c:Case)(f g m l:Addr)(vs:List V):Prop where
 ca:H a=some (.lst [.ref f, .ref g, .ref m, .ref l])
 fi:H f=some (.lst (c.xs.map V.str))
 se:H g=some (.lst (c.ys.map V.str))
 nu:H m=some (.lst [.int c.same, .int c.out, .int c.into, .int c.least])
 ne:H l=some (.lst vs)
 tr:dP H vs c.fs
theorem jt.keep{H H':Hp}{a:Addr}{c:Case}{f g m l:Addr}{vs:List V}(C:jt H a c f g m l vs)(s:ax H H'):jt H' a c f g m l vs:=⟨s _ _ C.ca,s _ _ C.fi,s _ _ C.se,s _ _ C.nu,s _ _ C.ne,C.tr.same s⟩
structure dW(most:Nat)(c:Case):Prop where
 x:c.xs.length≤most
 y:c.ys.length≤most
 good:bM c.fs=true
 same:1≤c.same∧c.same≤999999
 out:0≤c.out∧c.out≤999999
 into:0≤c.into∧c.into≤999999
 least:1≤c.least∧c.least≤999999
def wd(xs:List Str)(i:Int):Option Str:=if 0≤i then xs[i.toNat]? else none
theorem sT{xs:List Str}{i:Nat}:wd xs (i:Int)=xs[i]?:=by simp[wd]
theorem vy{xs:List Str}{i:Int}(h0:0≤i)(h:i<(xs.length:Int)):∃x,wd xs i=some x∧rj (xs.map V.str) i=some (.str x):=by
 obtain⟨j,rfl⟩:=Int.eq_ofNat_of_zero_le h0;have hj:j<xs.length:=Zz;exact⟨xs[j],by rw[sT];simp[hj],ar (by simp[hj])⟩
theorem Bg{xs:List Str}{i:Int}{x:Str}(h:wd xs i=some x):0≤i∧i<(xs.length:Int):=by
 unfold wd at h;split at h
 ·have:=(Y' h).1;omega
 ·cases h
def Case.pw(c:Case)(p:Pr):Option Int:=(wd c.xs p.1).bind fun x=>(wd c.ys p.2).bind fun y=>dB c.same c.fs x y
theorem Case.pw_of{c:Case}{p:Pr}{x y:Str}(h1:wd c.xs p.1=some x)(h2:wd c.ys p.2=some y):c.pw p=dB c.same c.fs x y:=by simp[Case.pw,h1,h2]
theorem Case.pw_in{c:Case}{p:Pr}{w:Int}(h:c.pw p=some w):(0≤p.1∧p.1<(c.xs.length:Int))∧(0≤p.2∧p.2<(c.ys.length:Int)):=by
 unfold Case.pw at h;cases e1:wd c.xs p.1 with
 |none=>rw[e1]at h;cases h
 |some x=>
  cases e2:wd c.ys p.2 with
  |none=>rw[e1,e2]at h;cases h
  |some y=>exact⟨Bg e1,Bg e2⟩
theorem Case.pw_out{c:Case}{p:Pr}(h:¬((0≤p.1∧p.1<(c.xs.length:Int))∧(0≤p.2∧p.2<(c.ys.length:Int)))):c.pw p=none:=by
 cases e:c.pw p with
 |none=>rfl
 |some w=>exact absurd (c.pw_in e) h
def stepOk(q p:Pr):Bool:=decide (q.1<p.1)&&decide (q.2<p.2)
def Case.gap(c:Case)(q p:Pr):Int:=c.out*(p.1-q.1-1)+c.into*(p.2-q.2-1)
def dA(c:Case)(ps:List Pr)(k:Nat):Bool:=(c.pw (pr ps k)).isSome&&(decide (k=0)||stepOk (pr ps (k-1)) (pr ps k))
def lF(c:Case)(ps:List Pr)(n:Nat):Prop:=∀k,k<n→dA c ps k=true
def kX(c:Case)(ps:List Pr):Bool:=!ps.isEmpty&&(List.range ps.length).all (dA c ps)
def dD(c:Case)(ps:List Pr):Nat→Int
 |0=>(c.pw (pr ps 0)).getD 0
 |k+1=>(c.pw (pr ps (k+1))).getD 0+dD c ps k-c.gap (pr ps k) (pr ps (k+1))
theorem mi{c:Case}{ps:List Pr}(h:ps≠[])(g:lF c ps ps.length):kX c ps=true:=by
 have h1:ps.isEmpty=false:=by simpa using h
 have h2:(List.range ps.length).all (dA c ps)=true:=List.all_eq_true.mpr fun k hk=>g k (by simpa using hk)
 simp[kX,h1,h2]
theorem Et{c:Case}{ps:List Pr}{k:Nat}(hk:k<ps.length)(g:dA c ps k=false):kX c ps=false:=by
 have h2:(List.range ps.length).all (dA c ps)=false:=by
  rw[Bool.eq_false_iff];intro z;rw[List.all_eq_true]at z;rw[z k (by simpa using hk)]at g;cases g
 simp[kX,h2]
theorem ky{c:Case}{ps:List Pr}(h:kX c ps=true):ps≠[]∧lF c ps ps.length:=by
 simp only[kX,Bool.and_eq_true,List.all_eq_true]at h;refine⟨fun z=>by subst z;simp at h,fun k hk=>h.2 k (by simpa using hk)⟩
theorem lF.next{c:Case}{ps:List Pr}{n:Nat}(h:lF c ps n)(g:dA c ps n=true):lF c ps (n+1):=fun k hk=>by
 by_cases e:k=n
 ·rw[e];exact g
 ·exact h k (Zz)
theorem GN{c:Case}{ps:List Pr}{k:Nat}(h:dA c ps k=true):∃w,c.pw (pr ps k)=some w:=by
 simp only[dA,Bool.and_eq_true]at h;exact Option.isSome_iff_exists.mp h.1
theorem Cj{c:Case}{ps:List Pr}{p:Pr}(g:lF c ps ps.length)(h:(c.pw p).isSome=true)(f:ps=[]∨stepOk (pr ps (ps.length-1)) p=true):lF c (ps++[p]) (ps.length+1):=fun k hk=>by
 by_cases e:k<ps.length
 ·have:=g k e;simp only[dA]at this⊢;rw[gW e];by_cases k0:k=0
  ·subst k0;simpa using this
  ·rw[gW (by omega:k-1<ps.length)];exact this
 ·have:k=ps.length:=Zz;subst this;simp only[dA];rw[si,h];rcases f with f|f
  ·subst f;rfl
  ·by_cases e0:ps.length=0
   ·simp[e0]
   ·rw[gW Zw,f];simp
structure Iu(c:Case):Prop where
 out:0≤c.out∧c.out≤999999
 into:0≤c.into∧c.into≤999999
theorem dW.num{m:Nat}{c:Case}(h:dW m c):Iu c:=⟨h.out,h.into⟩
def yv(H:Hp)(CT t:Addr)(c:Case):Prop:=∃n dx l d vs,kx H CT t n c.fs dx l d vs∧n.same=c.same∧n.out=c.out∧n.into=c.into∧n.least=c.least
theorem yv.keep{H H':Hp}{CT t:Addr}{c:Case}(T:yv H CT t c)(s:ax H H'):yv H' CT t c:=by
 obtain⟨n,dx,l,d,vs,T,r⟩:=T;exact⟨n,dx,l,d,vs,T.same s,r⟩
inductive sU(K:W.Frag)(vs:List V)(H:Hp)(Q:VK)(u3:XK):Prop
 |mk (a b x:Addr) (ns:List Int) (zs ws:List Str) (c p m:Int) (_:vs=[.ref a, .int c, .int p, .int m, .ref x, .ref b]) (_:iC K H a (ns.map V.int)) (_:H b=some (.lst (zs.map V.str))) (_:H x=some (.lst (ws.map V.str))) (_:(1≤zs.length∧zs.length≤1000)) (_:ws.length≤1000) (_:(∀w∈ws,w∈zs)) (_:0≤p) (_:0≤m) (_:m≤1000) (_:∀H' l (ws:List Str),ax H H'→H l=none→H' l=some (.lst (ws.map V.str))→ws.length=m.toNat→(∀w∈ws,w∈zs)→Q (.ref l) H'):sU K vs H Q u3
inductive wF(K:W.Frag)(vs:List V)(H:Hp)(Q:VK)(u3:XK):Prop
 |mk (a:Addr) (ns:List Int) (most:Int) (_:vs=[.ref a, .int most]) (_:iC K H a (ns.map V.int)) (_:0≤most) (_:most≤40) (_:∀H' b c f g m l us,ax H H'→H b=none→jt H' b c f g m l us→dW most.toNat c→Q (.ref b) H'):wF K vs H Q u3
inductive qj(C:Addr)(vs:List V)(H:Hp)(Q:VK)(u3:XK):Prop
 |mk (a:Addr) (c:Case) (f g m l:Addr) (us:List V) (most:Nat) (_:vs=[.ref a]) (_:jt H a c f g m l us) (_:dW most c) (_:∀H' t,ax H H'→yv H' C t c→Q (.ref t) H'):qj C vs H Q u3
inductive qk(vs:List V)(H:Hp)(Q:VK)(u3:XK):Prop
 |mk (a:Addr) (us:List V) (ps:List Pr) (_:vs=[.ref a]) (_:H a=some (.lst us)) (_:gI H us ps) (_:Q (.bl true) H):qk vs H Q u3
inductive sV(vs:List V)(H:Hp)(Q:VK)(u3:XK):Prop
 |mk (a w:Addr) (c:Case) (f g m l:Addr) (us:List V) (ws:List V) (ps:List Pr) (_:vs=[.ref a, .ref w]) (_:jt H a c f g m l us) (_:H w=some (.lst ws)) (_:gI H ws ps) (_:ps.length≤10000) (_:∀H',ax H H'→Q (.bl (kX c ps)) H'):sV vs H Q u3
inductive ql(vs:List V)(H:Hp)(Q:VK)(u3:XK):Prop
 |mk (a w:Addr) (c:Case) (f g m l:Addr) (us:List V) (ws:List V) (ps:List Pr) (_:vs=[.ref a, .ref w]) (_:jt H a c f g m l us) (_:Iu c) (_:H w=some (.lst ws)) (_:gI H ws ps) (_:ps.length≤10000) (_:kX c ps=true) (_:Q (.int (dD c ps (ps.length-1))) H):ql vs H Q u3
end QF
namespace L2
open PySem PySem.Spec PyProof.Rows PySem.W PySem.Calls
section
variable{pg:Program}{wd:World}{Ar:Around}{Rs:Result→Shared→Prop}{it:Addr}{fp wr:List Addr}{n:Nat}{Pv:Nat→Value→Prop}{Sv:Nat→Heap→Prop}
def wG:(toString "max"++toString ".loop":String)="max.loop":=ZA
theorem Ck(Wk:Walks pg wd Ar.in1 it fp wr n Pv Sv)(bt:Nat→Nat→Bool)(cmp:CmpOf pg wd Ar.in1 .Gt Pv bt)(B:Addr)(nb:B∉fp)(dv:Value):
  ∀(k j:Nat)(st:Shared)(old:List Value)(c:Nat),n-j=k→j≤n→Sv j st.heap→((j=0∧old=[])∨∃vb,0<j∧old=[vb,vb]∧Pv (argBest bt (j-1)) vb)→
  st.heap.get? B=some {cls:= .type "list",dict:=none,data:= .seq old.toArray c,slots:=#[]}→
  (∀v h' tk,((n=0∧v=dv)∨(0<n∧Pv (argBest bt (n-1)) v))→(∀b o,b∉wr→b≠B→st.heap.get? b=some o→h'.get? b=some o)→Rs (.ok (.ret v)) {st with heap:=h',toks:=tk})→
  codeAny (model pg wd) Ar (.builtin "max.loop" ⟨[.ref it, .none, .ref B],[("default",dv)]⟩) Rs st:=by
 have nw:B∉wr:=fun z=>nb (Wk.sub _ z)
 intro k
 induction k with
 |zero=>
  intro j st old c ek lj sv ol eB fin;have ej:j=n:=by lia
  subst ej;refine codeAny_builtin F.entry_max_loop ?_;rw[Around.under_plainId F.plain_max_loop _];show wpAny _ Ar.in1 (seqItems? (.ref B)>>=_) _ _ st;refine wpAny_bind (wpAny_seqItems eB rfl ?_);show wpAny _ Ar.in1 (tryCatch (pyNext (.ref it)) _>>=_) _ _ st;refine wpAny_bind (wpAny_tryCatch (Wk.done st _ _ sv fun h' tk kp=>?_));rcases ol with⟨z0,rfl⟩|⟨vb,z0,rfl,pb⟩
  ·refine wpAny_bind (wpAny_rule (wpAny_pure ?_));exact fin dv _ tk (.inl ⟨z0,rfl⟩) fun b o hb _ e=>kp b o hb e
  ·have Ke:=kp B _ nw eB;show wpAny _ Ar.in1 (updateSeq B (fun _=>#[])>>=_) _ _ _;refine wpAny_bind ?_;refine wpAny_updateSeq Ke rfl (wpAny_bind (wpAny_letGo (wpAny_pure ?_)));exact fin vb _ tk (.inr ⟨z0,pb⟩) fun b o hb hB e=>(Heap.get?_update_other _ _ (Ne.symm hB)).trans (kp b o hb e)
 |succ k ih=>
  intro j st old c ek lj sv ol eB fin;have lt:j<n:=by lia
  refine codeAny_builtin F.entry_max_loop ?_;rw[Around.under_plainId F.plain_max_loop _];show wpAny _ Ar.in1 (seqItems? (.ref B)>>=_) _ _ st;refine wpAny_bind (wpAny_seqItems eB rfl ?_);show wpAny _ Ar.in1 (tryCatch (pyNext (.ref it)) _>>=_) _ _ st;refine wpAny_bind (wpAny_tryCatch (Wk.item j st _ _ lt sv fun v h' tk pv Rp kp=>?_));have Ke:=kp B _ nw eB;have up:∀(g:Array Value→Array Value)(b:Addr),b∈fp→∀o,h'.get? b=some o→(h'.update B (Obj.mapSeq g)).get? b=some o:=fun g b hb o e=>(Heap.get?_update_other _ _ (fun z:B=b=>nb (by rw[z];exact hb))).trans e
  rcases ol with⟨rfl,rfl⟩|⟨vb,z0,rfl,pb⟩
  ·show wpAny _ Ar.in1 (updateSeq B (fun _=>#[v,v])>>=_) _ _ _;refine wpAny_bind ?_;refine wpAny_updateSeq Ke rfl ?_;rw[wG];refine wpAny_pure ⟨plainId_quiet F.plain_max_loop _,ih 1 _ [v,v] _ (by lia) lt (Wk.frame _ _ _ Rp (up _)) (.inr ⟨v,ZA,rfl,pv⟩) (Heap.get?_update_self _ Ke rfl) fun v' h2 NA pf NB=>?_⟩;exact fin v' h2 NA pf fun b o hb hB e=>NB b o hb hB ((Heap.get?_update_other _ _ (Ne.symm hB)).trans (kp b o hb e))
  ·obtain⟨i,rfl⟩:∃i,j=i+1:=⟨j-1,by lia⟩
   have pb:Pv (argBest bt i) vb:=pb;show wpAny _ Ar.in1 (tryCatch (holding [v,v] (richCompare .Gt v vb>>=_)) _>>=_) _ _ _;refine wpAny_bind (wpAny_tryCatch (wpAny_holding (wpAny_bind (cmp (i+1) (argBest bt i) v vb _ _ _ pv pb ?_))));refine wpAny_bind (wpAny_holding (wpAny_truthy_bool ?_));refine wpAny_bind (wpAny_letGo (wpAny_pure ?_));cases hb:bt (i+1) (argBest bt i)with
   |true=>
    simp only[if_true];refine wpAny_bind ?_;refine wpAny_updateSeq Ke rfl (wpAny_bind (wpAny_letGo ?_));rw[wG];refine wpAny_pure ⟨plainId_quiet F.plain_max_loop _,ih (i+2) _ [v,v] _ (by lia) lt (Wk.frame _ _ _ Rp (up _)) (.inr ⟨v,by lia,rfl,?_⟩) (Heap.get?_update_self _ Ke rfl) fun v' h2 NA pf NB=>?_⟩
    ·show Pv (argBest bt (i+1)) v;simp only[argBest,hb,if_true];exact pv
    ·exact fin v' h2 NA pf fun b o hb hB e=>NB b o hb hB ((Heap.get?_update_other _ _ (Ne.symm hB)).trans (kp b o hb e))
   |false=>
    simp only[Bool.false_eq_true,if_false];refine wpAny_bind (wpAny_letGo ?_);rw[wG];refine wpAny_pure ⟨plainId_quiet F.plain_max_loop _,ih (i+2) _ [vb,vb] c (by lia) lt Rp (.inr ⟨vb,by lia,rfl,?_⟩) Ke fun v' h2 NA pf NB=>?_⟩
    ·show Pv (argBest bt (i+1)) vb;simp only[argBest,hb,Bool.false_eq_true,if_false];exact pb
    ·exact fin v' h2 NA pf fun b o hb hB e=>NB b o hb hB (kp b o hb e)
theorem Cm(a d:Value):argsOk "max" ⟨[a],[("default",d)]⟩:=by unfold argsOk;kernel_rfl
end
section
variable{X:Cx}
def Kf:Option Int→V
 |none=> .cN
 |some i=> .int i
theorem ZZ{is:List Int}{us:List Value}(r:Vals (is.map V.int) us):us.length=is.length∧∀(j:Nat)(v:Value),us[j]?=some v→∃t,v= .int (is.getD j 0) t:=by
 have hl:=r.length;rw[List.length_map]at hl;refine⟨hl.symm,fun j v e=>?_⟩;have hj:j<is.length:=by have:=(Y' e).1;omega
 obtain⟨u,eu,ru⟩:=r.get (i:=j) (x:= .int is[j]) (by simp[hj]);rw[e]at eu;cases eu;obtain⟨t,rfl⟩:=ru;exact⟨t,by simp[hj]⟩
theorem Kg{is:List Int}{k:Nat}(hk:k<is.length)(h:∀j,j<is.length→is.getD j 0≤is.getD k 0):is.max?=some (is.getD k 0):=by
 rw[List.max?_eq_some_iff];refine⟨by simp[hk],fun b hb=>?_⟩;obtain⟨j,hj,rfl⟩:=List.mem_iff_getElem.mp hb;have:=h j hj;simpa[hj]using this
theorem Cn(hc:X.calm=true){pins:List (Addr×Obj)}{s:Shared}{σ:St}{H:Hp}{a:Addr}{is:List Int}{Q:VK}(I:Inv X pins σ H s)(hq:iC X.K H a (is.map V.int))(q:Q (Kf is.max?) H):
  wpAny (model X.prog X.w) X.A (call (.builtin "max") [.ref a] [("default", .none)]) (EP X pins σ Q) X.xe s:=by
 obtain⟨its,rv,p,hz⟩:=I.list hq;obtain⟨hl,hv⟩:=ZZ rv;refine wpAny_call (codeAny_call_builtin F.plain_max F.entry_max ?_);simp only[checkBuiltinCall,F.kind_max];have body:wpAny (model X.prog X.w) X.A.in1 (Builtin.«max» ⟨[.ref a],[("default", .none)]⟩) (fun fin s'=>match fin with
   | .done f=>(match (Except.ok f:Result)with| .ok (.ret v)=>EP X pins σ Q v s'| .ok _=>False| .error e=>X.xe e s')
   | .again c'=>c'.quiet=true∧codeAny (model X.prog X.w) X.A c' (fun r s'=>match r with| .ok (.ret v)=>EP X pins σ Q v s'| .ok _=>False| .error e=>X.xe e s') s') X.xe s:=by
  show wpAny _ X.A.in1 (Builtin.Builtins.bindParams "max" ["key","default"] 0 ⟨[],[("default", .none)]⟩>>=_) _ _ s;refine wpAny_bind (wpAny_of_eq (show Builtin.Builtins.bindParams "max" ["key","default"] 0 ⟨[],[("default", .none)]⟩=pure [none,some .none]from rfl) ?_);refine wpAny_bind (wpAny_pure (wpAny_bind (wpAny_pyIter_list p.isList ?_)));have eR:a≠s.heap.objs.size:=by
   obtain⟨o,n,e,_⟩:=p;exact Nat.ne_of_lt (Heap.lt_size e)
  refine wpAny_bind (wpAny_newObj_type ?_);rw[wG];have eS:(s.heap.push {cls:= .type "list_iterator",data:= .fields #[.ref a, .int 0 0]}).objs.size=s.heap.objs.size+1:=by simp[Heap.push]
  have Wk:=Walks.list (prog:=X.prog) (w:=X.w) (A:=X.A.in1) (show X.A.in1.handled=none from I.ok.hd hc) s.heap.objs.size a eR its.toArray;refine wpAny_pure ⟨plainId_quiet F.plain_max_loop _,Ck (pg:=X.prog) (wd:=X.w) Wk _ (CmpOf.ints_gt (fun j=>is.getD j 0) fun j v e=>hv j v (by simpa using e)) (s.heap.push {cls:= .type "list_iterator",data:= .fields #[.ref a, .int 0 0]}).objs.size ?_ .none _ 0 _ [] 0 rfl (Nat.zero_le _) ?_ (.inl ⟨rfl,rfl⟩) ?_ fun v h' tk pf kp=>?_⟩
  ·intro z;simp only[List.mem_cons,List.not_mem_nil,or_false]at z;rw[eS]at z;rcases z with z|z
   ·exact Nat.succ_ne_self _ z
   ·obtain⟨o,n,e,_⟩:=p;have lt:=Heap.lt_size e;rw[←z]at lt;exact Nat.lt_irrefl _ (Nat.lt_of_succ_lt lt)
  ·exact⟨⟨_,Zn (Heap.get?_push_size _ rfl),rfl,rfl⟩,p.isList.at fun o e=>Zn (Zn e)⟩
  ·exact Heap.get?_push_size _ rfl
  ·have keep:∀b o,s.heap.get? b=some o→h'.get? b=some o:=fun b o e=>by
    have lt:=Heap.lt_size e;refine kp b o (fun z=>?_) (fun z=>?_) (Zn (Zn e))
    ·have z:b=s.heap.objs.size:=by simpa using z
     rw[z]at lt;exact Nat.lt_irrefl _ lt
    ·rw[z,eS]at lt;exact Nat.lt_irrefl _ (Nat.lt_of_succ_lt lt)
   have sz:its.toArray.size=is.length:=by simp[hl]
   rcases pf with⟨h0,rfl⟩|⟨h0,pf⟩
   ·have:is=[]:=List.length_eq_zero_iff.mp Zw;subst this;exact⟨.cN,H,I.kept (t':=tk) keep,rfl,q⟩
   ·rw[List.getElem?_toArray]at pf;obtain⟨t,rfl⟩:=hv _ v pf;obtain⟨b1,b2⟩:=argBest_gt (fun j=>is.getD j 0) (its.toArray.size-1);have em:=Kg (is:=is) (k:=argBest (fun i j=>decide (is.getD i 0>is.getD j 0)) (its.toArray.size-1)) (Zz) fun j hj=>b2 j Zw
    rw[em]at q;exact⟨.int _,H,I.kept (t':=tk) keep,⟨t,rfl⟩,q⟩
 cases Rq:Manifest.signature? "max" with
 |none=>exact wpAny_pure body
 |some sig=>
  have ha:=Cm (.ref a) .none;simp only[argsOk,Rq]at ha;have h2:Bind.checkArgs "max" sig ⟨[.ref a],[("default", .none)]⟩=pure ():=ha;show wpAny _ X.A.in1 (Bind.checkArgs "max" sig ⟨[.ref a],[("default", .none)]⟩) _ _ s;rw[h2];exact wpAny_pure body
def NC(K:Frag)(ta:TE):TE:=fun σ H Q=>ta σ H fun x H1=>∃(a:Addr)(is:List Int),x= .ref a∧iC K H1 a (is.map V.int)∧Q (Kf is.max?) H1
theorem GO(K:Frag){e:Expr}{ta:TE}{p pos kp cp:Pos}{j:Nat}(hc:X.calm=true)(hg:Gl X "max")(hm:X.mg "max"=none)(he:PE X e ta)(hs:starEach [e] X.env=[(false,eval e X.env)]:=by rfl)(hK:X.K=K:=by rfl):
  PE X (.Call (.Name "max" p) [e] [⟨some "default", .Constant .none j cp,kp⟩] pos) (NC K ta):=by
 subst hK;intro pins s σ H Q I h;refine wpAny_Call_Name_kw (lu I hg hm (PyProof.Rows.Boot.«max») ?_ (ZA) (ZA));rw[hs];refine callWith_builtin_kwB (first:=[]) rfl rfl (evalArgs_kwB rfl ?_);refine Calls.spliced_cons ?_;show wpAny _ _ (eval e X.env) _ _ s;refine cH (he pins s σ H _ I h) fun v s1 ⟨x,H1,I1,r1,q1⟩=>Calls.spliced_nil ?_
 obtain⟨a,is,rfl,hq,q⟩:=q1;cases r1;refine kws_cons ?_;refine Constant_none ?_;refine kws_nil ?_;exact Cn hc I1 hq q
def ur:List V→List V→Bool
 |[],[]=>true
 |x::xs,y::ys=>v5 x y&&ur xs ys
 | _,_=>false
theorem kz:∀(xs ys:List V),((List.range (min xs.length ys.length)).all (fun j=>v5 (xs.getD j .cN) (ys.getD j .cN))&&xs.length==ys.length)=ur xs ys
 |[],[]=>rfl
 |[],y::ys=>by simp[ur]
 |x::xs,[]=>by simp[ur]
 |x::xs,y::ys=>by
  have ih:=kz xs ys;simp only[ur];rw[←ih];have e:min (x::xs).length (y::ys).length=min xs.length ys.length+1:=by simp[Nat.succ_min_succ]
  rw[e,List.range_succ_eq_map,List.all_cons,List.all_map];simp only[List.getD_cons_zero,Function.comp_def,List.getD_cons_succ,List.length_cons,Bool.and_assoc]
  congr 2
  simp
theorem sW{A:Around}{s:Shared}{xs ys:List V}{its eE:List Value}(r:Vals xs its)(r2:Vals ys eE)(f1:xs.all rk=true)(f2:ys.all rk=true):
  ∀j (h1:j<its.toArray.size) (h2:j<eE.toArray.size),SeqAt.EqAt A s its.toArray[j] eE.toArray[j] ((fun j=>v5 (xs.getD j .cN) (ys.getD j .cN)) j):=by
 refine Es r r2 fun j x y hx hy=> .inl ⟨List.all_eq_true.mp f1 x (Zk hx),List.all_eq_true.mp f2 y (Zk hy),?_⟩
 simp[List.getD_eq_getElem?_getD,hx,hy]
open Classical in
end
theorem vz{K:Frag}{a:Addr}{xs:List V}{ls:List Str}{js:List Nat}{g:TG}{tt:TT}{te:TE}{σ:St}{H1:Hp}{D:Addr}{Q:VK}(Pv:Nat→List V→St→Hp→Prop)
  (h0:Pv 0 [] (lC ls js σ) (upd H1 D (.lst []))) (hl:∀i ys σ H,i≤xs.length→Pv i ys σ H→iC K H a xs)
  (hs:∀i x T ys σ H,xs[i]?=some x→Pv i ys σ H→H T=none→g (.ref T) σ (upd H T (.tup [.int i,x])) fun fZ H3=>tt fZ H3 fun b H4=>if b=true then te fZ H4 fun y H5=>H5 D=some (.lst ys)∧ys.length<sizeLine∧Pv (i+1) (ys++[y]) fZ (upd H5 D (.lst (ys++[y])))else Pv (i+1) ys fZ H4)
  (hd:∀ys σ H,Pv xs.length ys σ H→Q (.ref D) H):
  sM (LU K a) ls js g tt te σ H1 D Q:=
 oG (n:=xs.length) Pv h0 (fun i ys σ H hi p=>⟨xs,xs[i],hl i ys σ H (Nat.le_of_lt hi) p,by simp[hi]⟩) (fun ys σ H p=>⟨xs,hl _ ys σ H (Nat.le_refl _) p,Nat.le_refl _⟩)
  (fun i ys σ H x H2 hi p y=>by
   obtain⟨T,z,rfl,hT,rfl,hy⟩:=y;exact hs i z T ys σ H (hy xs (hl i ys σ H (Nat.le_of_lt hi) p)) p hT) hd
end L2
namespace QF
open PySem L2
def fX(S:Int→Prop):Option Int→Prop
 |none=>∀v,¬S v
 |some m=>S m∧∀v,S v→v≤m
theorem fX.iff{S T:Int→Prop}{a:Option Int}(ha:fX S a)(h:∀v,S v↔T v):fX T a:=by
 cases a with
 |none=>exact fun v hv=>ha v ((h v).mpr hv)
 |some m=>exact⟨(h m).mp ha.1,fun v hv=>ha.2 v ((h v).mpr hv)⟩
def bx:Option Int→Int→Option Int
 |none,_=>none
 |some v,p=>some (v-p)
theorem fX.less{S:Int→Prop}{a:Option Int}(ha:fX S a)(p:Int):fX (fun v=>∃u,S u∧v=u-p) (bx a p):=by
 cases a with
 |none=>exact fun v ⟨u,hu,_⟩=>ha u hu
 |some m=>
  refine⟨⟨m,ha.1,rfl⟩,?_⟩;rintro v ⟨u,hu,rfl⟩;have:=ha.2 u hu;omega
def oK(l:List (Option Int)):Option Int:=(l.filterMap id).max?
theorem kC(l:List (Option Int)):fX (fun v=>some v∈l) (oK l):=by
 have key:∀v,v∈l.filterMap id↔some v∈l:=fun v=>by
  rw[List.mem_filterMap];exact⟨fun⟨o,ho,eo⟩=>by have eo:o=some v:=eo;rw[eo]at ho;exact ho,fun h=>⟨some v,h,rfl⟩⟩
 unfold oK;cases e:(l.filterMap id).max? with
 |none=>
  rw[List.max?_eq_none_iff]at e;intro v hv;have:=(key v).mpr hv;rw[e]at this;cases this
 |some m=>
  rw[List.max?_eq_some_iff]at e;exact⟨(key m).mp e.1,fun v hv=>e.2 v ((key v).mpr hv)⟩
theorem fX.Ub{S T:Int→Prop}{a:Option Int}(ha:fX S a)(h1:∀v,S v→T v)(h2:∀v,T v→∃u,S u∧v≤u):fX T a:=by
 cases a with
 |none=>
  intro v hv;obtain⟨u,hu,_⟩:=h2 v hv;exact ha u hu
 |some m=>
  refine⟨h1 m ha.1,fun v hv=>?_⟩;obtain⟨u,hu,hle⟩:=h2 v hv;have:=ha.2 u hu;omega
theorem yw{S1 S2 S3:Int→Prop}{a b c:Option Int}(h1:fX S1 a)(h2:fX S2 b)(h3:fX S3 c):fX (fun v=>S1 v∨S2 v∨S3 v) (oK [a,b,c]):=by
 refine(kC [a,b,c]).Ub (fun v hv=>?_) (fun v hv=>?_)
 ·simp only[List.mem_cons,List.not_mem_nil,or_false]at hv;rcases hv with e|e|e
  ·rw[←e]at h1;exact .inl h1.1
  ·rw[←e]at h2;exact .inr (.inl h2.1)
  ·rw[←e]at h3;exact .inr (.inr h3.1)
 ·have one:∀{S:Int→Prop}{o:Option Int},fX S o→S v→o∈[a,b,c]→∃u,some u∈[a,b,c]∧v≤u:=fun{S o} hm hs ho=>by
   cases o with
   |none=>exact absurd hs (hm v)
   |some m=>exact⟨m,ho,hm.2 v hs⟩
  rcases hv with hs|hs|hs
  ·exact one h1 hs Zu
  ·exact one h2 hs Zu
  ·exact one h3 hs Zu
def j8(ps:List Pr):Pr:=pr ps (ps.length-1)
def wW(c:Case)(ps:List Pr):Int:=dD c ps (ps.length-1)
def oM(c:Case)(shut:List Pr)(ps:List Pr):Prop:=kX c ps=true∧∀p∈ps,p∉shut
def n8(c:Case)(shut:List Pr)(p:Pr):Option Int:=if p∈shut then none else c.pw p
theorem nk{ps:List Pr}{p:Pr}:j8 (ps++[p])=p:=by
 unfold j8;rw[List.length_append];exact si
theorem sX{c:Case}{ps:List Pr}{p:Pr}:∀{k:Nat},k<ps.length→dD c (ps++[p]) k=dD c ps k
 |0,h=>by simp only[dD];rw[gW h]
 |k+1,h=>by simp only[dD];rw[gW h,gW (by omega:k<ps.length),sX (by omega:k<ps.length)]
theorem Kh{c:Case}{p:Pr}{w:Int}(h:c.pw p=some w):wW c [p]=w:=by
 simp[wW,dD,pr,h]
theorem GP{c:Case}{ps:List Pr}{p:Pr}{w:Int}(eR:ps≠[])(h:c.pw p=some w):wW c (ps++[p])=w+wW c ps-c.gap (j8 ps) p:=by
 have hp:0<ps.length:=List.length_pos_iff.mpr eR;obtain⟨k,hk⟩:∃k,ps.length=k+1:=⟨ps.length-1,Zz⟩
 have e1:(ps++[p]).length-1=k+1:=by rw[List.length_append];simp;omega
 unfold wW j8;rw[e1];have e2:pr (ps++[p]) (k+1)=p:=by rw[←hk];exact si
 simp only[dD,e2,h,Option.getD_some];rw[gW (by omega:k<ps.length),sX (by omega:k<ps.length),hk];rfl
theorem oM.one{c:Case}{shut:List Pr}{p:Pr}{w:Int}(h:n8 c shut p=some w):oM c shut [p]:=by
 unfold n8 at h;split at h
 ·cases h
 ·rename_i hs
  refine⟨mi Zu fun k hk=>?_,fun q hq=>?_⟩
  ·have:k=0:=by simp at hk;exact hk
   subst this;simp[dA,pr,h]
  ·have:q=p:=by simpa using hq
   rw[this];exact hs
theorem oM.snoc{c:Case}{shut:List Pr}{ps:List Pr}{p:Pr}{w:Int}(o:oM c shut ps)(h:n8 c shut p=some w)(st:stepOk (j8 ps) p=true):oM c shut (ps++[p]):=by
 obtain⟨eR,hg⟩:=ky o.1;unfold n8 at h;split at h
 ·cases h
 ·rename_i hs
  refine⟨mi Zu ?_,fun q hq=>?_⟩
  ·rw[List.length_append];exact Cj hg (by rw[h];rfl) (.inr st)
  ·rcases List.mem_append.mp hq with hq|hq
   ·exact o.2 q hq
   ·have:q=p:=by simpa using hq
    rw[this];exact hs
theorem yx{c:Case}{ps:List Pr}{p:Pr}{k:Nat}(h:k<ps.length):dA c (ps++[p]) k=dA c ps k:=by
 simp only[dA];rw[gW h,gW (by omega:k-1<ps.length)]
theorem oM.split{c:Case}{shut:List Pr}{ps:List Pr}(o:oM c shut ps):∃qs,ps=qs++[j8 ps]∧(∃w,n8 c shut (j8 ps)=some w)∧(qs=[]∨(oM c shut qs∧stepOk (j8 qs) (j8 ps)=true)):=by
 obtain⟨eR,hg⟩:=ky o.1;obtain⟨qs,p,rfl⟩:∃qs p,ps=qs++[p]:=⟨ps.dropLast,ps.getLast eR,(List.dropLast_concat_getLast eR).symm⟩
 rw[nk];have gl:=hg qs.length Zu;simp only[dA,si,Bool.and_eq_true]at gl;refine⟨qs,rfl,?_,?_⟩
 ·obtain⟨w,hw⟩:=Option.isSome_iff_exists.mp gl.1;have:=o.2 p Zu;exact⟨w,by simp[n8,this,hw]⟩
 ·by_cases e:qs=[]
  ·exact .inl e
  ·have hp:0<qs.length:=List.length_pos_iff.mpr e;refine .inr ⟨⟨mi e fun k hk=>?_,fun q hq=>o.2 q (List.mem_append_left _ hq)⟩,?_⟩
   ·have:=hg k (by simp;omega);rwa[yx hk]at this
   ·have g2:=gl.2;simp only[Bool.or_eq_true,decide_eq_true_eq]at g2;rcases g2 with g2|g2
    ·omega
    ·rw[gW (by omega:qs.length-1<qs.length)]at g2;exact g2
def GQ:Option Int→Option Int→Option Int
 |none,_=>none
 |some w,none=>some w
 |some w,some b=>if b<0 then some w else some (w+b)
def Bq(f:Nat→Nat→Option Int)(o p:Int):Nat→Nat→Option Int
 |0,_=>none
 | _+1,0=>none
 |i+1,j+1=>oK [GQ (f i j) (Bq f o p i j),bx (Bq f o p i (j+1)) o,bx (Bq f o p (i+1) j) p]
termination_by i j=>(i,j)
def dC(f:Nat→Nat→Option Int)(o p:Int)(i j:Nat):Option Int:=GQ (f i j) (Bq f o p i j)
def ju(c:Case)(shut:List Pr)(i j:Nat):Option Int:=n8 c shut ((i:Int),(j:Int))
theorem yy{q p:Pr}:stepOk q p=true↔q.1<p.1∧q.2<p.2:=by simp[stepOk]
theorem GR(o:Option Int):Kf o=bA o:=by cases o<;>rfl
def f'(H:Hp)(vs:List V)(L:List (List Pr)):Prop:=vs.length=L.length∧∀(k:Nat)(ps:List Pr),L[k]?=some ps→∃a us,vs[k]?=some (V.ref a)∧H a=some (.lst us)∧gI H us ps
def ND(l:Addr)(vs:List V):Prop:=∀k:Nat,vs[k]?≠some (V.ref l)
theorem f'.nil{H:Hp}:f' H [] []:=⟨rfl,fun k ps e=>by simp at e⟩
theorem f'.same{H H':Hp}{vs:List V}{L:List (List Pr)}(w:f' H vs L)(s:ax H H'):f' H' vs L:=⟨w.1,fun k ps e=>let ⟨a,us,h1,h2,h3⟩:=w.2 k ps e;⟨a,us,h1,s _ _ h2,h3.same s⟩⟩
theorem f'.put{H:Hp}{vs:List V}{L:List (List Pr)}{l:Addr}{zs:List V}{o:HO}(w:f' H vs L)(n:ND l vs)(h:H l=some (.lst zs)):f' (upd H l o) vs L:=⟨w.1,fun k ps e=>by
 obtain⟨a,us,h1,h2,h3⟩:=w.2 k ps e;refine⟨a,us,h1,?_,h3.cD (dG.lst h)⟩;rw[ak (fun z=>n k (by rw[h1,z]))];exact h2⟩
theorem f'.append{H:Hp}{vs ws:List V}{L M:List (List Pr)}(a:f' H vs L)(b:f' H ws M):f' H (vs++ws) (L++M):=by
 refine⟨by simp[a.1,b.1],fun i p e=>?_⟩;by_cases h:i<L.length
 ·rw[List.getElem?_append_left h]at e;obtain⟨x,us,h1,h2⟩:=a.2 i p e;exact⟨x,us,by rw[List.getElem?_append_left (by rw[a.1];exact h)];exact h1,h2⟩
 ·rw[List.getElem?_append_right Zw]at e;obtain⟨x,us,h1,h2⟩:=b.2 _ p e;exact⟨x,us,by rw[List.getElem?_append_right (by rw[a.1];omega),a.1];exact h1,h2⟩
theorem f'.one{H:Hp}{a:Addr}{us:List V}{ps:List Pr}(h:H a=some (.lst us))(P:gI H us ps):f' H [.ref a] [ps]:=by
 refine⟨rfl,fun i q e=>?_⟩
 match i,e with
 |0,e=>cases e;exact⟨a,us,rfl,h,P⟩
 |i+1,e=>simp at e
def cY(m:Nat)(f:Nat→Option Int):List V:=(List.range m).map fun j=>bA (f j)
theorem cZ(m:Nat)(f:Nat→Option Int):(cY m f).length=m:=by simp[cY]
theorem c7{m j:Nat}{f:Nat→Option Int}(h:j<m):(cY m f)[j]?=some (bA (f j)):=by simp[cY,h]
theorem qm(m:Nat)(f:Nat→Option Int):cY (m+1) f=cY m f++[bA (f m)]:=by simp[cY,List.range_succ]
structure i7(H:Hp)(as:List Addr)(f:Nat→Nat→Option Int)(n m:Nat):Prop where
 len:as.length=n
 row:∀(i:Nat)(a:Addr),as[i]?=some a→H a=some (.lst (cY m (f i)))
theorem i7.same{H H':Hp}{as:List Addr}{f:Nat→Nat→Option Int}{n m:Nat}(t:i7 H as f n m)(s:ax H H'):i7 H' as f n m:=⟨t.len,fun i a e=>s _ _ (t.row i a e)⟩
theorem i7.at{H:Hp}{as:List Addr}{f:Nat→Nat→Option Int}{n m i:Nat}(t:i7 H as f n m)(h:i<n):∃a,as[i]?=some a∧(as.map V.ref)[i]?=some (.ref a)∧H a=some (.lst (cY m (f i))):=by
 have hi:i<as.length:=by rw[t.len];exact h
 refine⟨as[i],by simp[hi],by simp[hi],t.row i _ (by simp[hi])⟩
def Tab(H H':Hp)(e:Addr)(f:Nat→Nat→Option Int)(n m:Nat):Prop:=∃as:List Addr,H' e=some (.lst (as.map V.ref))∧H e=none∧i7 H' as f n m∧∀a∈as,H a=none
structure Bh(K:W.Frag)(C:Addr):Prop where
 cl:vT K C
 out:b_ K C "out"
 into:b_ K C "into"
 kD:b_ K C "ending"
 jv:b_ K C "brought"
def gM(o p:Int)(e b:Addr):List (Str×V):=[("out", .int o),("into", .int p),("ending", .ref e),("brought", .ref b)]
theorem Iv(o p:Int)(e b:Addr):(gM o p e b).lookup ("out":Str)=some (V.int o):=by kernel_rfl
theorem Eu(o p:Int)(e b:Addr):(gM o p e b).lookup ("into":Str)=some (V.int p):=by kernel_rfl
theorem ig(o p:Int)(e b:Addr):(gM o p e b).lookup ("ending":Str)=some (V.ref e):=by kernel_rfl
theorem gP(o p:Int)(e b:Addr):(gM o p e b).lookup ("brought":Str)=some (V.ref b):=by kernel_rfl
theorem Ew(o p:Int)(e b:Addr):(gM o p e b).lookup ("brought_behind":Str)=none:=by kernel_rfl
theorem NG(o p:Int)(e b:Addr):bo "brought" (.ref b) (bo "ending" (.ref e) (bo "into" (.int p) (bo "out" (.int o) [])))=gM o p e b:=by kernel_rfl
def rK(f g:Nat→Option Int)(o p:Int):Nat→Option Int
 |0=>none
 |j+1=>oK [f j,bx (g (j+1)) o,bx (rK f g o p j) p]
theorem Bi(f:Nat→Nat→Option Int)(o p:Int)(i:Nat):∀j,rK (dC f o p i) (Bq f o p i) o p j=Bq f o p (i+1) j
 |0=>by unfold rK Bq;rfl
 |j+1=>by
  rw[rK,Bq,Bi f o p i j];rfl
theorem iG(f:Nat→Nat→Option Int)(o p:Int)(j:Nat):Bq f o p 0 j=none:=by unfold Bq;rfl
inductive lG(vs:List V)(H:Hp)(Q:VK)(u3:XK):Prop
 |mk (a:Addr) (os:List (Option Int)) (_:vs=[.ref a]) (_:H a=some (.lst (os.map bA))) (_:os.length≤1000) (_:∀H',ax H H'→Q (bA (oK os)) H'):lG vs H Q u3
inductive wH(vs:List V)(H:Hp)(Q:VK)(u3:XK):Prop
 |mk (o:Option Int) (p:Int) (_:vs=[bA o, .int p]) (_:Q (bA (bx o p)) H):wH vs H Q u3
inductive ZL(vs:List V)(H:Hp)(Q:VK)(u3:XK):Prop
 |mk (w b:Option Int) (_:vs=[bA w,bA b]) (_:Q (bA (GQ w b)) H):ZL vs H Q u3
inductive qo(C:Addr)(vs:List V)(H:Hp)(Q:VK)(u3:XK):Prop
 |mk (x e a dx te tb:Addr) (o p:Int) (m:Nat) (f g:Nat→Option Int) (_:vs=[.ref x, .ref e, .ref a]) (_:H x=some (.ins C dx (gM o p te tb))) (_:H e=some (.lst (cY m f))) (_:H a=some (.lst (cY (m+1) g))) (_:m≤1000) (_:∀H' r,ax H H'→H r=none→H' r=some (.lst (cY (m+1) (rK f g o p)))→Q (.ref r) H'):qo C vs H Q u3
def Ex(H:Hp)(v:V)(shut:List Pr):Prop:=(v= .cN∧shut=[])∨∃l us,v= .ref l∧H l=some (.lst us)∧gI H us shut
def a_(p:Pr):List Key:=[.inl p.1, .inl p.2]
def mT(kvs:List (List Key×V))(shut:List Pr):Prop:=∀p:Pr,(bu kvs (a_ p)).isSome=decide (p∈shut)
inductive wI(vs:List V)(H:Hp)(Q:VK)(u3:XK):Prop
 |mk (v:V) (shut:List Pr) (_:vs=[v]) (_:Ex H v shut) (_:shut.length≤1000) (_:∀H' d kvs,ax H H'→H' d=some (.dT kvs)→mT kvs shut→Q (.ref d) H'):wI vs H Q u3
theorem gI.last{H:Hp}{xs:List V}{ps:List Pr}(P:gI H xs ps)(eR:ps≠[]):∃t,rj xs (-1)=some (.ref t)∧H t=some (.tup [.int (j8 ps).1, .int (j8 ps).2]):=by
 have hp:0<ps.length:=List.length_pos_iff.mpr eR;have hl:=P.1;obtain⟨t,h1,h2⟩:=P.Kd (k:=ps.length-1) (by lia);refine⟨t,?_,h2⟩;have e:xs=xs.take (ps.length-1)++[V.ref t]:=by
  apply List.ext_getElem?;intro n;by_cases hn:n<ps.length-1
  ·rw[List.getElem?_append_left (by rw[List.length_take];lia),List.getElem?_take,Zp hn]
  ·rw[List.getElem?_append_right (by rw[List.length_take];lia),List.length_take];by_cases xP:n=ps.length-1
   ·subst xP;rw[h1];have:ps.length-1-min (ps.length-1) xs.length=0:=by lia
    rw[this];rfl
   ·rw[List.getElem?_eq_none Zx,List.getElem?_eq_none (by simp;lia)]
 rw[e];exact ym _ _
theorem wJ(p q:Pr):ur (jr p) (jr q)=decide (p=q):=by
 simp only[jr,ur,v5,Bool.and_true];rw[Bool.eq_iff_iff];simp[Prod.ext_iff]
theorem Ey{m j:Nat}{f:Nat→Option Int}{u:Option Int}:(cY m f).set j (bA u)=cY m (fun k=>if k=j then u else f k):=by
 apply List.ext_getElem?;intro k;by_cases hk:k<m
 ·rw[c7 hk];by_cases e:j=k
  ·subst e;rw[List.getElem?_set_self (by rw[cZ];exact hk)];simp
  ·rw[List.getElem?_set_ne e,c7 hk];have:¬k=j:=fun z=>e z.symm
   simp[this]
 ·rw[List.getElem?_eq_none (by rw[List.length_set,cZ];omega),List.getElem?_eq_none (by rw[cZ];omega)]
end QF
namespace L2
open PySem PySem.Spec PyProof.Rows PySem.W PySem.Calls
section
variable{X:Cx}{tg:Expr}
end
section
variable{X:Cx}
end
section
variable{X:Cx}
end
end L2
namespace QF
open PySem L2
def Rr(fs:List Form)(x t:Str):Bool:=decide (x=t)||fs.any fun f=>(decide (f.1=x)&&decide (f.2.1=t))||(decide (f.1=t)&&decide (f.2.1=x))
def NH(fs:List Form)(t:Str):List Str:=[t]++(fs.filter fun f=>decide (f.1=t)).map (·.2.1)++(fs.filter fun f=>decide (f.2.1=t)).map (·.1)
def Iw(p:Nat→Bool):Nat→Int
 |0=> -1
 |n+1=>if p n then(n:Int)else Iw p n
structure NS where
 ws:List Str
 ts:List Str
 fs:List Form
 span:Nat
def NS.p(c:NS)(t:Str)(i:Nat):Bool:=match c.ws[i]? with
 |some x=>Rr c.fs x t
 |none=>false
def NS.NI(c:NS)(n:Nat):List Int:=c.ts.map fun t=>Iw (c.p t) n
def NS.low(c:NS)(n:Nat):Int:=((c.NI n).min?).getD (-1)
def NS.at_(c:NS)(h:Nat):Option Pr:=if c.low h<c.low (h+1)∧(h:Int)-c.low (h+1)<c.span then some (c.low (h+1),(h:Int))else none
def NS.told(c:NS)(k:Nat):List Pr:=(List.range k).filterMap c.at_
def NS.holds(c:NS)(l h:Nat):Bool:=c.ts.all fun t=>(((c.ws.map fun x=>decide (x∈NH c.fs t)).drop l).take (h-l)).any id
def NS.ok(c:NS)(l h:Nat):Bool:=c.holds l (h+1)&&!(c.holds (l+1) (h+1))&&!(c.holds l h)
def NS.row(c:NS)(l k:Nat):List Pr:=(List.range k).filterMap fun d=>if c.ok l (l+d)=true then some ((l:Int),((l+d:Nat):Int))else none
def NS.Yv(c:NS)(i:Nat):List Pr:=(List.range i).flatMap fun l=>c.row l (min c.ws.length (l+c.span)-l)
end QF
namespace L2
open PySem PySem.Spec PyProof.Rows PySem.W PySem.Calls
section
variable{X:Cx}{tg:Expr}
end
section
variable{pg:Program}{wd:World}{Ar:Around}{sh:Shared}{Rs:Result→Shared→Prop}{it:Addr}{fp wr:List Addr}{Gn:Array GenState→Array GenState→Prop}{n:Nat}{Pv:Nat→Value→Prop}{Sv:Nat→Shared→Prop}
end
section
variable{X:Cx}
end
end L2
namespace QF
open PySem L2
def Z0(q p:Pr):Prop:=q.1<p.1∧q.2<p.2
def gp(o i:Int)(q p:Pr):Int:=o*(p.1-q.1-1)+i*(p.2-q.2-1)
structure Wy(g:Pr→Option Int)(ps:List Pr):Prop where
 ne:ps≠[]
 ok:∀p∈ps,(g p).isSome=true
 up:ps.Pairwise Z0
def vl(g:Pr→Option Int)(o i:Int):List Pr→Int
 |[]=>0
 |[p]=>(g p).getD 0
 |p::q::r=>(g p).getD 0-gp o i p q+vl g o i (q::r)
def la(ps:List Pr):Pr:=ps.headD (0,0)
def lstP(ps:List Pr):Pr:=ps.getLastD (0,0)
theorem dH{ps:List Pr}{p:Pr}:lstP (ps++[p])=p:=by simp[lstP]
theorem wK(g:Pr→Option Int)(o i:Int)(q:Pr)(bs:List Pr):∀(as:List Pr),vl g o i (as++q::bs)=vl g o i (as++[q])+vl g o i (q::bs)-(g q).getD 0
 |[]=>by simp only[List.nil_append,vl];omega
 |[a]=>by
  simp only[List.cons_append,List.nil_append,vl];omega
 |a::b::r=>by
  have ih:=wK g o i q bs (b::r);simp only[List.cons_append]at ih⊢;simp only[vl];rw[ih];omega
theorem oN(g:Pr→Option Int)(o i:Int){ps:List Pr}(eR:ps≠[])(p:Pr):vl g o i (ps++[p])=(g p).getD 0+vl g o i ps-gp o i (lstP ps) p:=by
 obtain⟨qs,q,rfl⟩:∃qs q,ps=qs++[q]:=⟨ps.dropLast,ps.getLast eR,(List.dropLast_concat_getLast eR).symm⟩
 rw[dH,List.append_assoc];have:=wK g o i q [p] qs;simp only[List.singleton_append]at this⊢;rw[this];simp only[vl];omega
theorem Wy.one{g:Pr→Option Int}{p:Pr}(h:(g p).isSome=true):Wy g [p]:=by
 refine⟨ZD,fun q hq=>?_,ZD⟩;have e:q=p:=by simpa using hq
 rw[e];exact h
theorem qp{a b c:Pr}(h1:Z0 a b)(h2:Z0 b c):Z0 a c:=⟨Int.lt_trans h1.1 h2.1,Int.lt_trans h1.2 h2.2⟩
theorem pw_lst{ps:List Pr}(h:ps.Pairwise Z0){q:Pr}(hq:q∈ps):q=lstP ps∨Z0 q (lstP ps):=by
 have eR:ps≠[]:=fun z=>by rw[z]at hq;cases hq
 obtain⟨qs,x,rfl⟩:∃qs x,ps=qs++[x]:=⟨ps.dropLast,ps.getLast eR,(List.dropLast_concat_getLast eR).symm⟩
 rw[dH];rcases List.mem_append.mp hq with hq|hq
 ·exact .inr ((List.pairwise_append.mp h).2.2 q hq x (ZD))
 ·exact .inl (by simpa using hq)
theorem Wy.snoc{g:Pr→Option Int}{ps:List Pr}{p:Pr}(w:Wy g ps)(h:(g p).isSome=true)(s:Z0 (lstP ps) p):Wy g (ps++[p]):=by
 refine⟨ZD,fun q hq=>?_,List.pairwise_append.mpr ⟨w.up,ZD,fun a ha b hb=>?_⟩⟩
 ·rcases List.mem_append.mp hq with hq|hq
  ·exact w.ok q hq
  ·have:q=p:=by simpa using hq
   rw[this];exact h
 ·have:b=p:=by simpa using hb
  rw[this];rcases pw_lst w.up ha with e|e
  ·rw[e];exact s
  ·exact qp e s
theorem Wy.split{g:Pr→Option Int}{ps:List Pr}(w:Wy g ps):∃qs,ps=qs++[lstP ps]∧(∃v,g (lstP ps)=some v)∧(qs=[]∨(Wy g qs∧Z0 (lstP qs) (lstP ps))):=by
 obtain⟨qs,x,rfl⟩:∃qs x,ps=qs++[x]:=⟨ps.dropLast,ps.getLast w.ne,(List.dropLast_concat_getLast w.ne).symm⟩
 rw[dH];refine⟨qs,rfl,Option.isSome_iff_exists.mp (w.ok x (ZD)),?_⟩;by_cases e:qs=[]
 ·exact .inl e
 ·have h:=List.pairwise_append.mp w.up;refine .inr ⟨⟨e,fun q hq=>w.ok q (List.mem_append_left _ hq),h.1⟩,h.2.2 _ ?_ x (ZD)⟩;obtain⟨rs,y,rfl⟩:∃rs y,qs=rs++[y]:=⟨qs.dropLast,qs.getLast e,(List.dropLast_concat_getLast e).symm⟩
  rw[dH];simp
theorem c_{ps:List Pr}(h:ps≠[]):lstP ps∈ps:=by
 obtain⟨rs,y,rfl⟩:∃rs y,ps=rs++[y]:=⟨ps.dropLast,ps.getLast h,(List.dropLast_concat_getLast h).symm⟩
 rw[dH];simp
def lf(f:Nat→Nat→Option Int)(p:Pr):Option Int:=if 0≤p.1∧0≤p.2 then f p.1.toNat p.2.toNat else none
theorem qr(f:Nat→Nat→Option Int)(i j:Nat):lf f ((i:Int),(j:Int))=f i j:=by simp[lf]
theorem Bj{f:Nat→Nat→Option Int}{p:Pr}(h:(lf f p).isSome=true):∃i j:Nat,p=((i:Int),(j:Int)):=by
 unfold lf at h;split at h
 ·rename_i hh
  exact⟨p.1.toNat,p.2.toNat,Prod.ext (by simp;omega) (by simp;omega)⟩
 ·cases h
def O9(f:Nat→Nat→Option Int)(o p:Int)(i j:Nat)(v:Int):Prop:=∃ps,Wy (lf f) ps∧(lstP ps).1<(i:Int)∧(lstP ps).2<(j:Int)∧v=vl (lf f) o p ps-(o*((i:Int)-1-(lstP ps).1)+p*((j:Int)-1-(lstP ps).2))
def O_(f:Nat→Nat→Option Int)(o p:Int)(q:Pr)(v:Int):Prop:=∃ps,Wy (lf f) ps∧lstP ps=q∧v=vl (lf f) o p ps
theorem Bk{f:Nat→Nat→Option Int}{o p:Int}{i j:Nat}{b:Option Int}(h:fX (O9 f o p i j) b):fX (O_ f o p ((i:Int),(j:Int))) (GQ (f i j) b):=by
 cases e:f i j with
 |none=>
  rintro v ⟨ps,w,el,rfl⟩;obtain⟨qs,_,⟨x,hx⟩,_⟩:=w.split;rw[el,qr,e]at hx;cases hx
 |some x=>
  have eg:lf f ((i:Int),(j:Int))=some x:=by rw[qr];exact e
  have ZK:∀ps,Wy (lf f) ps→lstP ps=((i:Int),(j:Int))→vl (lf f) o p ps=x∨∃v,O9 f o p i j v∧vl (lf f) o p ps=x+v:=fun ps w el=>by
   obtain⟨qs,eq,_,hq⟩:=w.split;rw[el]at eq hq;rcases hq with rfl|⟨wq,st⟩
   ·left
    rw[eq];simp[vl,eg]
   ·right
    refine⟨_,⟨qs,wq,st.1,st.2,rfl⟩,?_⟩;rw[eq,oN _ _ _ wq.ne,eg];simp only[gp,Option.getD_some];have e1:(i:Int)-(lstP qs).1-1=(i:Int)-1-(lstP qs).1:=Zz;have e2:(j:Int)-(lstP qs).2-1=(j:Int)-1-(lstP qs).2:=Zz;rw[e1,e2];omega
  have alone:O_ f o p ((i:Int),(j:Int)) x:=⟨[((i:Int),(j:Int))], .one (by rw[eg];rfl),rfl,by simp[vl,eg]⟩
  have more:∀v,O9 f o p i j v→O_ f o p ((i:Int),(j:Int)) (x+v):=by
   rintro v ⟨ps,w,l1,l2,rfl⟩;refine⟨ps++[((i:Int),(j:Int))],w.snoc (by rw[eg];rfl) ⟨l1,l2⟩,dH,?_⟩;rw[oN _ _ _ w.ne,eg];simp only[gp,Option.getD_some];have e1:(i:Int)-(lstP ps).1-1=(i:Int)-1-(lstP ps).1:=Zz;have e2:(j:Int)-(lstP ps).2-1=(j:Int)-1-(lstP ps).2:=Zz;rw[e1,e2];omega
  cases b with
  |none=>
   refine⟨alone,?_⟩;rintro v ⟨ps,w,el,rfl⟩;rcases ZK ps w el with h1|⟨u,hu,_⟩
   ·omega
   ·exact absurd hu (h u)
  |some m=>
   simp only[GQ];split
   ·refine⟨alone,?_⟩;rintro v ⟨ps,w,el,rfl⟩;rcases ZK ps w el with h1|⟨u,hu,h2⟩
    ·omega
    ·have:=h.2 u hu;omega
   ·refine⟨more m h.1,?_⟩;rintro v ⟨ps,w,el,rfl⟩;rcases ZK ps w el with h1|⟨u,hu,h2⟩
    ·omega
    ·have:=h.2 u hu;omega
theorem yz{f:Nat→Nat→Option Int}{ps:List Pr}(w:Wy (lf f) ps):0≤(lstP ps).1∧0≤(lstP ps).2:=by
 obtain⟨a,b,e⟩:=Bj (w.ok _ (c_ w.ne));rw[e];simp
theorem fY(f:Nat→Nat→Option Int)(o p:Int):∀i j:Nat,fX (O9 f o p i j) (Bq f o p i j)
 |0,j=>by
  unfold Bq;rintro v ⟨ps,w,l1,_⟩;have:=yz w;simp at l1;omega
 |i+1,0=>by
  unfold Bq;rintro v ⟨ps,w,_,l2,_⟩;have:=yz w;simp at l2;omega
 |i+1,j+1=>by
  rw[Bq];refine(yw (Bk (fY f o p i j)) ((fY f o p i (j+1)).less o) ((fY f o p (i+1) j).less p)).iff fun v=>?_
  constructor
  ·rintro(⟨ps,w,el,rfl⟩|⟨u,⟨ps,w,l1,l2,rfl⟩,rfl⟩|⟨u,⟨ps,w,l1,l2,rfl⟩,rfl⟩)
   ·refine⟨ps,w,by rw[el];simp;omega,by rw[el];simp;omega,?_⟩;rw[el];have e1:((i+1:Nat):Int)-1-(i:Int)=0:=Zz;have e2:((j+1:Nat):Int)-1-(j:Int)=0:=Zz;simp only[e1,e2,Int.mul_zero];omega
   ·refine⟨ps,w,Zz,Zz,?_⟩;have e1:((i+1:Nat):Int)-1-(lstP ps).1=((i:Int)-1-(lstP ps).1)+1:=Zz;rw[e1,Int.mul_add];omega
   ·refine⟨ps,w,Zz,Zz,?_⟩;have e1:((j+1:Nat):Int)-1-(lstP ps).2=((j:Int)-1-(lstP ps).2)+1:=Zz;rw[e1,Int.mul_add];omega
  ·rintro⟨ps,w,l1,l2,rfl⟩;by_cases h1:(lstP ps).1<(i:Int)
   ·right;left
    refine⟨_,⟨ps,w,h1,l2,rfl⟩,?_⟩;have e1:((i+1:Nat):Int)-1-(lstP ps).1=((i:Int)-1-(lstP ps).1)+1:=Zz;rw[e1,Int.mul_add];omega
   ·by_cases h2:(lstP ps).2<(j:Int)
    ·right;right
     refine⟨_,⟨ps,w,l1,h2,rfl⟩,?_⟩;have e1:((j+1:Nat):Int)-1-(lstP ps).2=((j:Int)-1-(lstP ps).2)+1:=Zz;rw[e1,Int.mul_add];omega
    ·left
     have a1:(lstP ps).1=(i:Int):=Zz;have a2:(lstP ps).2=(j:Int):=Zz;refine⟨ps,w,Prod.ext a1 a2,?_⟩;have e1:((i+1:Nat):Int)-1-(lstP ps).1=0:=Zz;have e2:((j+1:Nat):Int)-1-(lstP ps).2=0:=Zz;simp only[e1,e2,Int.mul_zero];omega
termination_by i j=>(i,j)
theorem sY(f:Nat→Nat→Option Int)(o p:Int)(i j:Nat):fX (O_ f o p ((i:Int),(j:Int))) (dC f o p i j):=Bk (fY f o p i j)
def fr(f:Nat→Nat→Option Int)(n m:Nat)(a b:Nat):Option Int:=if a<n∧b<m then f (n-1-a) (m-1-b)else none
def Df(f:Nat→Nat→Option Int)(n m:Nat):Prop:=∀i j,(f i j).isSome=true→i<n∧j<m
theorem wL(c:Case)(shut:List Pr)(p:Pr):lf (ju c shut) p=n8 c shut p:=by
 unfold lf;split
 ·rename_i h
  unfold ju
  congr 1
  exact Prod.ext (by simp;omega) (by simp;omega)
 ·rename_i h
  unfold n8;split
  ·rfl
  ·exact(c.pw_out Zw).symm
theorem Ki(c:Case)(shut:List Pr):Df (ju c shut) c.xs.length c.ys.length:=fun i j h=>by
 unfold ju n8 at h;split at h
 ·cases h
 ·obtain⟨w,hw⟩:=Option.isSome_iff_exists.mp h;have:=c.pw_in hw;simp at this;omega
theorem Bl{ps:List Pr}(h:ps≠[]):j8 ps=lstP ps:=by
 obtain⟨qs,x,rfl⟩:∃qs x,ps=qs++[x]:=⟨ps.dropLast,ps.getLast h,(List.dropLast_concat_getLast h).symm⟩
 rw[nk,dH]
theorem Kj{c:Case}{shut:List Pr}{p:Pr}{w:Int}(h:n8 c shut p=some w):c.pw p=some w∧p∉shut:=by
 unfold n8 at h;split at h
 ·cases h
 ·rename_i hs
  exact⟨h,hs⟩
theorem wM{c:Case}{shut:List Pr}:∀{k:Nat}{ps:List Pr},ps.length=k→oM c shut ps→Wy (n8 c shut) ps∧wW c ps=vl (n8 c shut) c.out c.into ps
 |0,ps,hk,o=>absurd (List.length_eq_zero_iff.mp hk) (ky o.1).1
 |k+1,ps,hk,o=>by
  obtain⟨qs,eq,⟨w,hw⟩,hq⟩:=o.split;generalize j8 ps=p at eq hw hq;subst eq;have hp:=Kj hw;rcases hq with rfl|⟨oq,st⟩
  ·exact⟨.one (by rw[hw];rfl),by rw[List.nil_append,Kh hp.1];simp[vl,hw]⟩
  ·have hlen:qs.length=k:=by simpa using hk
   obtain⟨wq,vq⟩:=wM hlen oq;have el:=Bl wq.ne;rw[yy,el]at st;refine⟨wq.snoc (by rw[hw];rfl) st,?_⟩;rw[GP wq.ne hp.1,oN _ _ _ wq.ne,hw,vq,el];rfl
theorem Bm{c:Case}{shut:List Pr}:∀{k:Nat}{ps:List Pr},ps.length=k→Wy (n8 c shut) ps→oM c shut ps
 |0,ps,hk,w=>absurd (List.length_eq_zero_iff.mp hk) w.ne
 |k+1,ps,hk,w=>by
  obtain⟨qs,eq,⟨v,hv⟩,hq⟩:=w.split;generalize lstP ps=p at eq hv hq;subst eq;rcases hq with rfl|⟨wq,st⟩
  ·exact .one hv
  ·have hlen:qs.length=k:=by simpa using hk
   exact(Bm hlen wq).snoc hv (yy.mpr (by rw[Bl wq.ne];exact st))
theorem yA{c:Case}{shut:List Pr}{ps:List Pr}:oM c shut ps↔Wy (lf (ju c shut)) ps:=by
 have:lf (ju c shut)=n8 c shut:=by funext p;exact wL c shut p
 rw[this];exact⟨fun o=>(wM rfl o).1,fun w=>Bm rfl w⟩
theorem GU{c:Case}{shut:List Pr}{ps:List Pr}(o:oM c shut ps):wW c ps=vl (lf (ju c shut)) c.out c.into ps:=by
 have:lf (ju c shut)=n8 c shut:=by funext p;exact wL c shut p
 rw[this];exact(wM rfl o).2
end QF
namespace L2
open PySem PySem.Spec PyProof.Rows PySem.W PySem.Calls
section
variable{X:Cx}
open Classical in
end
end L2
namespace QF
open PySem L2
theorem gI.first{H:Hp}{xs:List V}{ps:List Pr}(P:gI H xs ps)(eR:ps≠[]):∃t,rj xs 0=some (.ref t)∧H t=some (.tup [.int (la ps).1, .int (la ps).2]):=by
 cases ps with
 |nil=>exact absurd rfl eR
 |cons p r=>
  obtain⟨t,h1,h2⟩:=P.2 0 p rfl;exact⟨t,ar (j:=0) h1,h2⟩
end QF
namespace L2
open PySem PySem.Spec PyProof.Rows PySem.W PySem.Calls
section
variable{prog:Program}{w:World}{κ:Type}[DecidableEq κ]{knd:HeapKind prog w κ}{A:Around}{E:Value→Shared→Prop}{s:Shared}
theorem vA{α β:Type}(f:α→β):∀(xs:List α)(j:Nat),(xs.eraseIdx j).map f=(xs.map f).eraseIdx j
 |[],_=>ZD
 | _::_,0=>ZD
 | _::r,j+1=>by simp[vA f r j]
theorem Co{xs:List (κ×Addr×Value)}(hn:(xs.map (·.1)).Nodup):∀{j:Nat}{k:κ}{p:Addr×Value},xs[j]?=some (k,p)→xs.eraseIdx j=xs.filter fun x=>decide (x.1≠k):=by
 induction xs with
 |nil=>intro j k p h;simp at h
 |cons x r ih=>
  intro j k p h;have Du:=List.nodup_cons.mp (by simpa using hn:(x.1::r.map (·.1)).Nodup);cases j with
  |zero=>
   have:x=(k,p):=by simpa using h
   subst this;have hf:r.filter (fun x=>decide (x.1≠k))=r:=List.filter_eq_self.mpr fun y hy=>by
    have:y.1≠k:=fun e=>Du.1 (List.mem_map.mpr ⟨y,hy,e⟩)
    simpa using this
   simp only[List.eraseIdx_cons_zero,List.filter_cons];rw[hf];simp
  |succ j=>
   have hj:r[j]?=some (k,p):=by simpa using h
   have hx:x.1≠k:=fun e=>Du.1 (e▸(List.mem_map.mpr ⟨(k,p),Zk hj,rfl⟩))
   simp only[List.eraseIdx_cons_succ,List.filter_cons];rw[ih Du.2 hj,Zp (by simpa using hx)]
theorem wN{d a:Addr}{xs:List (κ×Addr×Value)}{k:κ}{p:Addr×Value}{Q:Option DictEntry→Shared→Prop}(hu:knd.room A)(oj:knd.is s.heap k a)(hm:s.heap.DictOfH knd d xs)(hp:atKey xs k=some p)(hsz:xs.length≤sizeLine)
  (h:∀h' e,e.val=p.2→h'.DictOfH knd d (xs.filter fun x=>decide (x.1≠k))→Heap.SameBut d s.heap h'→Q (some e) {s with heap:=h',toks:=s.toks+knd.draws k}):wpAny (model prog w) A (Builtin.Dict.takeOut d (.ref a)) Q E s:=by
 obtain⟨o,es,ep,ho,hc,hd,he,Rt,hn⟩:=hm;unfold Builtin.Dict.takeOut
 try with_reducible refine wpAny_holding ?_
 refine wpAny_bind (knd.pyHash hu oj ?_);refine wpAny_bind (wpAny_dictFind_heap (s:={s with toks:=s.toks+knd.draws k}) hu oj ho hd he Rt hn ?_ ?_)
 ·intro Cp;rw[atKey_none_of_get Cp]at hp;cases hp
 ·intro j q hj;have eq:q=p:=by rw[atKey_of_get hn hj]at hp;exact Zt hp
  subst eq;refine wpAny_bind (wpAny_dictEntries (s:={s with toks:=s.toks+knd.draws k}) ho hd ?_);rw[entry_at he j,hj];refine wpAny_bind (wpAny_updateDictKeys (hz:=by have e:=size_of_entries he;omega) (s:={s with toks:=s.toks+knd.draws k}) ho hd (wpAny_pure (h _ _ rfl ⟨_,_,ep+1,Heap.get?_update_self _ ho (Obj.isFreed_of_dict (Obj.data_mapDictKeys hd _)),
   hc.mapDictKeys _,Obj.data_mapDictKeys hd _,?_,?_,?_⟩ (Heap.SameBut.update ..))))
  ·rw[←Co hn hj,vA,←he];obtain⟨l⟩:=es;simp
  ·intro x hx;exact knd.keeps (Rt x (List.mem_filter.mp hx).1) ho hd (Heap.SameBut.update ..)
  ·exact hn.sublist (List.filter_sublist.map _)
theorem ZR(d a:Addr):
  MeetsIn prog w (Builtin.«dict.pop» ⟨[.ref d, .ref a],[]⟩) (fun A R s=>knd.room A.in1∧∃k xs p,knd.is s.heap k a∧s.heap.DictOfH knd d xs∧xs.length≤sizeLine∧atKey xs k=some p∧
   ∀h',h'.DictOfH knd d (xs.filter fun x=>decide (x.1≠k))→Heap.SameBut d s.heap h'→R (.ok (.ret p.2)) {s with heap:=h',toks:=s.toks+knd.draws k}):=
 .of_wp fun A R s ⟨hu,k,xs,p,oj,hm,hsz,hp,h⟩=>by
  obtain⟨o,es,ep,ho,hc,hd,he,Rt,hn⟩:=id hm;have eR:es.isEmpty=false:=by
   cases hx:xs with
   |nil=>rw[hx]at hp;cases hp
   |cons x r=>
    have:=size_of_entries he;rw[hx]at this;simp at this;rw[Array.isEmpty_eq_false_iff];intro e;rw[e]at this;simp at this
  unfold Builtin.«dict.pop»;refine wpAny_bind ?_;unfold Builtin.Dict.keyAndDefault;refine wpAny_bind (wpAny_notOrdered_dict hm.typeIs ?_);show wpAny _ _ (pure (d,Value.ref a,none)) _ _ s;refine wpAny_pure ?_;have NJ:(keyPart (Value.ref a)).isSome=false:=rfl;simp only[NJ,Bool.false_eq_true,if_false];refine wpAny_bind (wpAny_dictEntries ho hd (wpAny_bind (wpAny_pure ?_)));rw[eR];simp only[Bool.false_eq_true,if_false];refine wpAny_bind (wN hu oj hm hp hsz fun h' e Wg zN mS=>?_);simp only[Option.isNone_some,Bool.false_eq_true,if_false];exact wpAny_bind (wpAny_letGo (wpAny_pure ⟨e.val,rfl,by rw[Wg];exact h h' zN mS⟩))
end
section
variable{X:Cx}{pins:List (Addr×Obj)}{σ:St}{H:Hp}{s:Shared}{a:Addr}{u:Value}{A:Around}{E:Value→Shared→Prop}{kvs:List (List Key×V)}
theorem KT.drop{xs:List (List Key×Addr×Value)}(r:KT H kvs xs)(k:List Key):KT H (iZ kvs k) (xs.filter fun x=>decide (x.1≠k)):=by
 unfold iZ
 induction r with
 |nil=>exact .nil
 |cons z t ih=>
  simp only[List.filter_cons];rw[z.1];split
  ·exact .cons z ih
  ·exact ih
theorem Kk{v:V}{k:List Key}{b:Addr}{Q:Value→Shared→Prop}(hu:A.units+1<cLine)(I:Inv X pins σ H s)(e:H a=some (.dT kvs))(eb:H b=some (.tup (k.map kV)))(l:bu kvs k=some v)
  (h:∀w' s',Inv X pins σ (upd H a (.dT (iZ kvs k))) s'→RelV v w'→Q w' s'):wpAny (model X.prog X.w) A (call (.builtin "dict.pop") [.ref a, .ref b]) Q E s:=by
 obtain⟨z,hd,xs,rel,dd⟩:=Ia I.bX e;have rv:=rel.val k;rw[l]at rv;obtain⟨w',hw,ic⟩:=kq.some_of rv;obtain⟨p,hp,rfl⟩:=Option.map_eq_some_iff.mp hw;refine call_meetsIn PySem.F.slot_dict_pop dd.typeIs PySem.F.entry_dict_pop (PySem.F.args_dict_pop_2 _ _) (ZR (knd:=tupleKind (cU X.prog X.w)) a b)
  ⟨tupleKind_room_in1 hu,k,xs,p,nc I.bX eb,dd,by rw[←Paired.length rel];exact z,hp,fun h' Ib hs=>h _ _ ?_ ic⟩
 obtain⟨q,es,ep,hq,h2,h3,h4,_,h5⟩:=Ib;refine vW I (by rw[e];exact True.intro) hs ⟨q,hq⟩ ⟨Nat.le_trans (yj kvs k) z,hd,_,(rel.drop k).keeps fun c ys ec=>?_,q,es,ep,hq,h2,h3,h4,h5⟩;rw[ak (iX ec e (fun z=>nomatch z))];exact ec
end
inductive Iy(x y:V)(H:Hp)(Q:VK):Prop
 |mk (a b:Addr) (kvs:List (List Key×V)) (k:List Key) (v:V) (_:x= .ref a) (_:y= .ref b) (_:H a=some (.dT kvs)) (_:H b=some (.tup (k.map kV))) (_:bu kvs k=some v) (_:Q v (upd H a (.dT (iZ kvs k)))):Iy x y H Q
def NK(td ty:TE):TE:=fun σ H Q=>td σ H fun x H1=>∃a,x= .ref a∧QL H1 a∧ty σ H1 fun y H2=>Iy x y H2 Q
theorem Ez{X:Cx}{o e:Expr}{apos eD:Pos}{td ty:TE}(hu:X.A.units+1<cLine)(ho:PE X o td)(he:PE X e ty)(m:M1 X o "pop" apos e eD):PE X (.Call (.Attribute o "pop" apos) [e] [] eD) (NK td ty):=by
 intro pins s σ H Q I h;refine wpAny_Call_method m.base m.sI m.line PySem.F.plainAttrs_dict PySem.F.slot_dict_pop PySem.F.type_dict_pop (cH (ho pins s σ H _ I h) fun u s1 ⟨x,H1,I1,rx,a,ex,d,q1⟩=>?_);subst ex;obtain rfl:u=Value.ref a:=rx;obtain⟨t1,t2,_⟩:=DL I1 d;refine⟨t1,t2,?_⟩;rw[m.trees];refine Calls.callWith_builtin rfl (Calls.evalArgs_plain (Calls.spliced_cons (cH (he pins s1 σ H1 _ I1 q1) fun iv s2 ⟨y,H2,I2,ry,q2⟩=>Calls.spliced_nil ?_)));obtain⟨a',b,kvs,k,v,e1,rfl,e2,e3,l,q⟩:=q2;cases e1;obtain rfl:iv=Value.ref b:=ry;exact Kk hu I2 e2 e3 l fun w' s3 I3 ic=>⟨v,_,I3,ic,q⟩
section
variable{prog:Program}{w:World}{A:Around}{E:Value→Shared→Prop}{s:Shared}{it d:Addr}{i ep:Nat}{od:Obj}{es:Array DictEntry}{Q:Option Value→Shared→Prop}
theorem EA(hit:s.heap.IsValIter it d i es.size ep)(IA:s.heap.get? d=some od)(IB:od.data= .dict es ep)(hi:i<es.size)
  (hQ:∀h',h'.IsValIter it d (i+1) es.size ep→Heap.SameBut it s.heap h'→Q (some es[i].val) {s with heap:=h'}):wpAny (model prog w) A (pyNext (.ref it)) Q E s:=by
 obtain⟨o,ho,hc,hd⟩:=id hit;have T:=hit.typeIs;have Cp:Builtin.Dict_items.ownsTuple "dict_valueiterator"=false:=ZA;unfold pyNext;refine wpAny_bind (wpAny_attempt (wpAny_callSpecial?_slot (name:=Str.ofString "__next__") T F.slot_dict_valueiterator_next (wpAny_call_entry F.slot_dict_valueiterator_next T F.entry_dict_valueiterator_next ?_ (F.args_dict_valueiterator_next_1 _))));refine wpAny_bind (wpAny_pure (wpAny_bind (wpAny_bind ?_)));first|refine wpAny_bind (wpAny_typeNameOfWhole_valiter T (wpAny_pure ?_))|refine wpAny_bind (wpAny_typeNameOf_valiter T (wpAny_pure ?_))
 refine wpAny_bind (wpAny_fieldsOf ho hd ?_);simp only[Cp,Bool.false_eq_true,if_false];show wpAny _ _ (if (Value.ref d==Value.none)=true then _ else _) _ _ s;rw[Zm (show ¬((Value.ref d==Value.none)=true)from Bool.false_ne_true)];refine wpAny_bind (wpAny_pure (wpAny_bind (wpAny_dictEntries IA IB ?_)));rw[if_neg Zu];refine wpAny_bind (wpAny_pure (wpAny_bind (wpAny_dictEpoch IA IB ?_)));rw[if_neg Zu];refine wpAny_pure ?_;simp only[show ¬((i:Int)<0)from by omega,if_false,Int.toNat_natCast,Array.getElem?_eq_getElem hi];refine wpAny_bind ?_;first|refine wpAny_bind (wpAny_typeNameOfWhole_valiter T (wpAny_pure ?_))|refine wpAny_bind (wpAny_typeNameOf_valiter T (wpAny_pure ?_))
 refine wpAny_bind (wpAny_isOneOf_valiter T ?_);show wpAny _ _ (setField (.ref it) 1 (rawInt ((i:Int)+1))>>=_) _ _ s;refine wpAny_bind (wpAny_setField ho hd Zu ?_);have ht:(s.heap.update it (Obj.mapFields (·.setIfInBounds 1 (rawInt ((i:Int)+1))))).IsValIter it d (i+1) es.size ep:=
  ⟨_,Heap.get?_update_self _ ho (Obj.isFreed_of_fields (Obj.data_mapFields hd _)),(Obj.cls_mapFields ..).trans hc,by rw[Obj.data_mapFields hd];simp[rawInt]⟩
 refine wpAny_bind (wpAny_holding (wpAny_bind (wpAny_isOneOf_valiter (s:={s with heap:=s.heap.update it (Obj.mapFields (·.setIfInBounds 1 (rawInt ((i:Int)+1))))}) ht.typeIs ?_)));refine wpAny_bind (wpAny_isOneOf_valiter (s:={s with heap:=s.heap.update it (Obj.mapFields (·.setIfInBounds 1 (rawInt ((i:Int)+1))))}) ht.typeIs ?_);show wpAny _ _ (pure es[i].val) _ _ _;exact wpAny_pure (wpAny_pure ⟨_,rfl,wpAny_pure (hQ _ ht (Heap.SameBut.update ..))⟩)
theorem GV(hh:A.handled=none)(hit:s.heap.IsValIter it d i es.size ep)(IA:s.heap.get? d=some od)(IB:od.data= .dict es ep)(hi:es.size≤i)
  (hQ:∀h',Heap.ExtBut it s.heap h'→Q none {s with heap:=h'}):wpAny (model prog w) A (pyNext (.ref it)) Q E s:=by
 obtain⟨o,ho,hc,hd⟩:=id hit;have T:=hit.typeIs;have Cp:Builtin.Dict_items.ownsTuple "dict_valueiterator"=false:=ZA;unfold pyNext;refine wpAny_bind (wpAny_attempt (wpAny_callSpecial?_slot (name:=Str.ofString "__next__") T F.slot_dict_valueiterator_next (wpAny_call_entry F.slot_dict_valueiterator_next T F.entry_dict_valueiterator_next ?_ (F.args_dict_valueiterator_next_1 _))));refine wpAny_bind (wpAny_pure (wpAny_bind (wpAny_bind ?_)));first|refine wpAny_bind (wpAny_typeNameOfWhole_valiter T (wpAny_pure ?_))|refine wpAny_bind (wpAny_typeNameOf_valiter T (wpAny_pure ?_))
 refine wpAny_bind (wpAny_fieldsOf ho hd ?_);simp only[Cp,Bool.false_eq_true,if_false];show wpAny _ _ (if (Value.ref d==Value.none)=true then _ else _) _ _ s;rw[Zm (show ¬((Value.ref d==Value.none)=true)from Bool.false_ne_true)];refine wpAny_bind (wpAny_pure (wpAny_bind (wpAny_dictEntries IA IB ?_)));rw[if_neg Zu];refine wpAny_bind (wpAny_pure (wpAny_bind (wpAny_dictEpoch IA IB ?_)));rw[if_neg Zu];refine wpAny_pure ?_;simp only[show ¬((i:Int)<0)from by omega,if_false,Int.toNat_natCast,Array.getElem?_eq_none hi];refine wpAny_bind ?_;first|refine wpAny_bind (wpAny_typeNameOfWhole_valiter T (wpAny_pure ?_))|refine wpAny_bind (wpAny_typeNameOf_valiter T (wpAny_pure ?_))
 show wpAny _ _ (setField (.ref it) 0 .none>>=_) _ _ s;refine wpAny_bind (wpAny_setField ho hd Zu ?_);show wpAny _ _ (newExc (.type "StopIteration") []>>=_) _ _ _;refine wpAny_bind ?_;simp only[newExc,newTuple];refine wpAny_bind (wpAny_newObj_type ?_ (by size_fits));refine wpAny_bind (m:=firstArgMember _ _) (wpAny_of_eq (a:=Value.none) (by first|rfl|(simp only[firstArgMember];rfl)) ?_);refine wpAny_newObj_type ?_ (by size_fits);simp only[raiseNew];refine wpAny_bind (wpAny_handled ?_);rw[show A.in1.handled=none from hh];refine wpAny_bind (wpAny_pure (wpAny_throw ?_));refine wpAny_bind (wpAny_isInstance (T:="StopIteration") (b:=true) ⟨_,Heap.get?_push_size _ rfl,rfl⟩ isSubtype_stop ?_);exact wpAny_pure (hQ _ (((Heap.SameBut.update ..).extBut.push _).push _))
end
theorem vB{α β:Type}{F:α→β→Prop}:∀{l:List α}{m:List β}{i:Nat}{a:α},Paired F l m→l[i]?=some a→∃b,m[i]?=some b∧F a b
 | _,_,_,_, .nil,e=>by simp at e
 | _,_,0,_, .cons r _,e=>by simp at e;subst e;exact⟨_,rfl,r⟩
 | _,_,i+1,_, .cons _ t,e=>by
  obtain⟨b,h,f⟩:=vB (i:=i) t (by simpa using e);exact⟨b,by simpa using h,f⟩
def Ru(d:Addr)(o:Obj)(kvs:List (List Key×V)):It:=
 ⟨fun i H=>H d=some (.r9 o (.dT kvs))∧i<kvs.length,fun i H x H'=>H'=H∧∃p,kvs[i]?=some p∧x=p.2,fun i H=>H d=some (.r9 o (.dT kvs))∧kvs.length≤i⟩
theorem Bn{P:Program}{w:World}{H:Hp}{h:Heap}{d:Addr}{o:Obj}{kvs:List (List Key×V)}{es:Array DictEntry}{ep:Nat}(ok:lr P w H h)(e:H d=some (.r9 o (.dT kvs)))(hd:o.data= .dict es ep):
  h.get? d=some o∧es.size=kvs.length∧∀i (hi:i<es.size) p,kvs[i]?=some p→RelV p.2 es[i].val:=by
 obtain⟨q1,_,_,xs,r,o',xZ,OS,z1,z2,z3,z4,_⟩:=ok d _ e;rw[q1]at z1;cases z1;rw[hd]at z3;cases z3;have hs:=size_of_entries z4;have hl:=Paired.length r;refine⟨q1,by rw[hs,hl],fun i hi p hp=>?_⟩;obtain⟨x,hx,rx⟩:=vB r hp;have e1:=entry_at z4 i;rw[hx,Array.getElem?_eq_getElem hi]at e1;have:es[i]=entryOfKey (tupleKind (cU P w)) x:=Zt e1;rw[this];exact rx.2.2
theorem turn_val{P:Program}{w:World}{K:Frag}{tg:Expr}{it d:Addr}{o:Obj}{kvs:List (List Key×V)}{es:Array DictEntry}{ep:Nat}(hd:o.data= .dict es ep):Turn P w K tg (Ru d o kvs) [it] it (fun i h=>h.IsValIter it d i es.size ep) where
 mem:=ZD
 obj:=fun i h st b hb=>by
  have e:b=it:=by simpa using hb
  subst e;obtain⟨o,e,c,d⟩:=st;exact⟨o,e,fun v z=>by rw[d]at z;cases z⟩
 keep:=fun i h h' st k=>let ⟨o,ho,r⟩:=st;⟨o,k it (ZD) o ho,r⟩
 item:=by
  intro X hP hw hK hc i pins s σ H E I hf st hg;subst hP hw hK;obtain⟨hg,hi⟩:=hg;obtain⟨f0,f1,f2,f3,f4,f5⟩:=hf it (ZD);obtain⟨g1,g2,g3⟩:=Bn I.bX hg hd;have A8:i<es.size:=Zz;refine EA st g1 hd A8 fun h' aT sb=>?_
  have I1:Inv X pins σ H {s with heap:=h'}:=I.turned (t':=s.toks) (fun b o hb e=>(sb.2 b hb).trans e) f0 f1 f3 f4 f5;obtain⟨oi,q1,q2,q3⟩:=id aT;exact⟨_,rfl,yd (s:={s with heap:=h'}) q1 q2 q3 (ZA) ⟨_,H,I1,g3 i A8 kvs[i] (by simp[hi]),⟨rfl,kvs[i],by simp[hi],rfl⟩,aT,fun b hb=>(hf b hb).1⟩⟩
 done:=by
  intro X hP hw hK hc i pins s σ H E I hf st hg;subst hP hw hK;obtain⟨hg,hi⟩:=hg;obtain⟨f0,f1,f2,f3,f4,f5⟩:=hf it (ZD);obtain⟨g1,g2,g3⟩:=Bn I.bX hg hd;exact GV (I.ok.hd hc) st g1 hd Zw fun h' eb=>⟨rfl,I.turned (t':=s.toks) (fun b o hb e=>eb b o hb e) f0 f1 f3 f4 f5⟩
 self:=fun _ _ _ _ _ st h=>wpAny_pyIter_valiter st h
section
variable{prog:Program}{w:World}{A:Around}{E:Value→Shared→Prop}{s:Shared}
theorem Cq(d:Addr)(hd:(d==sysModules)=false):MeetsIn prog w (Builtin.«dict.values» ⟨[.ref d],[]⟩) (fun _ R s=>s.TypeIs (.ref d) "dict"∧
   R (.ok (.ret (.ref s.heap.objs.size))) {s with heap:=s.heap.push {cls:= .type "dict_values",data:= .fields #[.ref d]}}):=
 .of_wp fun A R s ⟨ht,h⟩=>by
  refine wpAny_bind ?_;unfold Builtin.Dict.noArgs;refine wpAny_bind (wpAny_notOrdered_dict ht ?_);show wpAny _ _ (pure d) _ _ s;refine wpAny_pure ?_;show wpAny _ _ (Builtin.Dict.showsAll d>>=_) _ _ s;unfold Builtin.Dict.showsAll;rw[Zm (by rw[hd];exact Bool.false_ne_true)];exact wpAny_bind (wpAny_pure (wpAny_bind (wpAny_newObj_type (wpAny_pure ⟨_,rfl,h⟩))))
theorem Cr{v d:Addr}{od:Obj}{es:Array DictEntry}{ep:Nat}{Q:Value→Shared→Prop}(hv:s.heap.IsValuesView v d)(IA:s.heap.get? d=some od)(IB:od.data= .dict es ep)
  (hQ:Q (.ref s.heap.objs.size) {s with heap:=s.heap.push {cls:= .type "dict_valueiterator",data:= .fields #[.ref d, .int 0 0, .int es.size 0, .int ep 0]}}):wpAny (model prog w) A (pyIter (.ref v)) Q E s:=by
 obtain⟨ov,Wh,Yw,Wi⟩:=id hv;refine wpAny_pyIter_slot hv.typeIs F.slot_dict_values_iter (wpAny_call_entry F.slot_dict_values_iter hv.typeIs F.entry_dict_values_iter ?_ (F.args_dict_values_iter_1 _));unfold Builtin.«dict_values.__iter__»;refine wpAny_bind (wpAny_pure (wpAny_bind ?_));unfold Builtin.Dict_items.dictOf;refine wpAny_bind (wpAny_field Wh Wi (x:= .ref d) rfl (wpAny_pure (wpAny_bind ?_)));unfold Builtin.Dict_items.newIterator;refine wpAny_bind (wpAny_dictEntries IA IB (wpAny_bind (wpAny_dictEpoch IA IB ?_)));have Cp:Builtin.Dict_items.ownsTuple "dict_valueiterator"=false:=ZA;simp only[Cp,Bool.false_eq_true,if_false];refine wpAny_newObj_type (wpAny_pure ⟨_,rfl,"dict_valueiterator",_,⟨_,Heap.get?_push_size _ rfl,rfl⟩,F.slot_dict_valueiterator_next.lookup,?_⟩);simpa[rawInt]using hQ
end
def NL(eU:Hp)(tl:TE):TI:=fun σ H R=>tl σ H fun x H1=>∃d kvs,x= .ref d∧H1 d=some (.dT kvs)∧∀o,NF eU d→R (Ru d o kvs) (upd H1 d (.r9 o (.dT kvs)))
theorem GW{X:Cx}(eU:Hp){tg o:Expr}{tl:TE}{apos eD:Pos}(hl:PE X o tl)(oz:attributeBase o "values" X.env (eval o X.env)=eval o X.env:=by rfl)(oA:(apos.endLine==eD.line)=true:=by rfl)(hH:X.eU=eU:=by rfl):
  PI X tg (.Call (.Attribute o "values" apos) [] [] eD) (NL eU tl):=by
 subst hH;intro pins s σ H R I h;refine wpAny_Call_method0_late oz oA (cH (hl pins s σ H _ I h) fun v s1 ⟨x,H1,I1,r1,q1⟩=>?_);obtain⟨d,kvs,e,hd,q⟩:=q1;subst e;cases r1;obtain⟨z1,z2,xs,r,o,es,ep,g1,g2,g3,g4,g5⟩:=I1.bX d _ hd;have nf:NF X.eU d:=fun o v e=>by
  have:=I1.base.n9 d o v e;rw[hd]at this;cases this
 refine⟨"dict",_,F.plainAttrs_dict,F.slot_dict_values,F.type_dict_values,⟨o,g1,g2.1⟩,fun b hb=>?_,Calls.callWith_builtin rfl (PySem.evalArgs_none ?_)⟩
 ·cases hb;exact⟨o,g1,g2.2.1⟩
 refine call_meetsIn F.slot_dict_values ⟨o,g1,g2.1⟩ F.entry_dict_values (F.args_dict_values_1 _) (Cq d z2) ⟨⟨o,g1,g2.1⟩,?_⟩;have Wj:=Heap.get?_push_of_some {cls:= .type "dict_values",data:= .fields #[.ref d]} g1;refine Cr (s:={s1 with heap:=s1.heap.push {cls:= .type "dict_values",data:= .fields #[.ref d]}}) ⟨_,Heap.get?_push_size _ rfl,rfl,rfl⟩ Wj g3 ?_;have Iz:Inv X pins σ (upd H1 d (.r9 o (.dT kvs))) s1:=I1.swap hd (fun _ z=>nomatch z) (fun _ z=>nomatch z) (fun _ z=>nomatch z) nf ⟨g1,z1,z2,xs,KT.keeps r (fun c ys ec=>by rw[ak (iX ec hd (fun z=>nomatch z))];exact ec),o,es,ep,g1,g2,g3,g4,g5⟩;have I2:=Iz.kept (t':=s1.toks) fun b o e=>Heap.get?_push_of_some {cls:= .type "dict_values",data:= .fields #[.ref d]} e
 refine⟨_,[_],_,_,_,rfl,I2.kept (t':=s1.toks) fun b o e=>Zn e,turn_val (o:=o) (kvs:=kvs) g3,⟨_,Heap.get?_push_size _ rfl,rfl,rfl⟩,fun b hb=>?_,q o nf⟩;have e:b=(s1.heap.push {cls:= .type "dict_values",data:= .fields #[.ref d]}).objs.size:=by simpa using hb
 subst e;exact I2.uo (Nat.le_refl _) (I2.bX.fresh (Nat.le_refl _))
structure ZG(n:Nat)(lt:Nat→Nat→Bool):Prop where
 tr:∀i j k,i<n→j<n→k<n→lt i j=true→lt j k=true→lt i k=true
 as:∀i j,i<n→j<n→lt i j=true→lt j i=false
 Rv:∀i j,i<n→j<n→i≠j→lt i j=true∨lt j i=true
def xS(n:Nat)(p:Array Nat):Prop:=p.toList.Perm (List.range n)
abbrev gd(p:Array Nat)(k:Nat):Nat:=p.getD k 0
theorem EB(p:Array Nat)(k:Nat):gd p k=(p[k]?).getD 0:=by unfold gd;rw[Array.getD_eq_getD_getElem?]
theorem xS.size{n:Nat}{p:Array Nat}(h:xS n p):p.size=n:=by have:=h.length_eq;simpa using this
def Sd(lt:Nat→Nat→Bool)(p:Array Nat)(m:Nat):Prop:=∀i j,i<j→j<m→lt (gd p i) (gd p j)=true
section
variable{n:Nat}{lt:Nat→Nat→Bool}(L:ZG n lt)
include L
omit L in
omit L in
omit L in
end
def yB:Bool→Keyed→Array Keyed→Nat→Nat→Nat→StateT SortSt Sem (Option Nat):=sortPriv%PySem.Builtin.gallop
def Kl:Array Keyed→Array Keyed→StateT SortSt Sem (Array Keyed):=sortPriv%PySem.Builtin.mergeLo
def Km:Array Keyed→Array Keyed→StateT SortSt Sem (Array Keyed):=sortPriv%PySem.Builtin.mergeHi
def z9(l:Bool)(key:Keyed)(xs:Array Keyed)(b i:Nat):StateT SortSt Sem (Option Bool):=do
 let x←elem' xs (b+i)
 if l then lt' x key else return (←lt' key x).map (!·)
theorem GX(l:Bool)(key:Keyed)(xs:Array Keyed)(b n h:Nat):yB l key xs b n h=(do
 let mut u:=0
 let mut v:=1
 let mut lo:=0
 let mut hi:=0
 let some r←z9 l key xs b h|return none
 if r then
  let mx:=n-h
  for _ in [0:n] do
   if v≥mx then break
   let some z←z9 l key xs b (h+v)|return none
   if !z then break
   u:=v
   v:=2*v+1
  lo:=h+u+1
  hi:=h+min v mx
 else
  let mx:=h+1
  for _ in [0:n] do
   if v≥mx then break
   let some z←z9 l key xs b (h-v)|return none
   if z then break
   u:=v
   v:=2*v+1
  lo:=h+1-min v mx
  hi:=h-u
 for _ in [0:n] do
  if lo≥hi then break
  let m:=lo+(hi-lo)/2
  let some z←z9 l key xs b m|return none
  if z then lo:=m+1 else hi:=m
 return some hi):=rfl
section
variable{prog:Program}{w:World}{A:Around}{E:Value→Shared→Prop}{s:Shared}
structure EC(prog:Program)(w:World)(A:Around)(s:Shared)(X:List Keyed)(κ:SortKind)(lt:Keyed→Keyed→Bool):Prop where
 run:∀x∈X,∀y∈X,∀C:Bool→Shared→Prop,C (lt x y) s→wpAny (model prog w) A (keyLt' κ x.1 y.1) C (fun _ _=>False) s
 tr:∀x∈X,∀y∈X,∀z∈X,lt x y=true→lt y z=true→lt x z=true
 as:∀x∈X,∀y∈X,lt x y=true→lt y x=false
 Rv:∀x∈X,∀y∈X,x≠y→lt x y=true∨lt y x=true
 nd:X.Nodup
variable{X:List Keyed}{κ:SortKind}{lt:Keyed→Keyed→Bool}(C:EC prog w A s X κ lt)
include C
theorem EC.no{x y:Keyed}(h1:x∈X)(h2:y∈X)(hn:x≠y)(h:lt x y=false):lt y x=true:=(C.Rv x h1 y h2 hn).resolve_left (by rw[h];simp)
theorem EC.ask{st:SortSt}{x y:Keyed}{Q:Option Bool→SortSt→Prop}(hk:kindOf st=κ)(h1:x∈X)(h2:y∈X)(h:Q (some (lt x y)) st):wpS (model prog w) A E s (lt' x y) Q st:=by
 rw[lt'_eq];refine wpS_bind (wpS_get ?_);rw[hk];refine wpS_bind (wpS_lift (wpAny_attempt (wpAny_mono (C.run x h1 y h2 (fun b s'=>b=lt x y∧s'=s) ⟨rfl,rfl⟩) ?_ fun _ _ e=>e.elim)));rintro b s' ⟨rfl,rfl⟩;exact⟨rfl,wpS_pure h⟩
omit C in
theorem eZ{st:SortSt}{xs:Array Keyed}{i:Nat}{x:Keyed}{Q:Keyed→SortSt→Prop}(e:xs[i]?=some x)(h:Q x st):wpS (model prog w) A E s (elem' xs i) Q st:=by
 rw[elem'_eq,e];exact wpS_pure h
def lb(lt:Keyed→Keyed→Bool)(l:Bool)(key x:Keyed):Bool:=if l then lt x key else !lt key x
theorem sj{st:SortSt}{l:Bool}{key x:Keyed}{xs:Array Keyed}{b i:Nat}{Q:Option Bool→SortSt→Prop}(hk:kindOf st=κ)(h1:key∈X)(h2:x∈X)(e:xs[b+i]?=some x)(h:Q (some (lb lt l key x)) st):wpS (model prog w) A E s (z9 l key xs b i) Q st:=by
 unfold z9;refine wpS_bind (eZ e ?_);cases l with
 |true=>exact C.ask hk h2 h1 h
 |false=>exact wpS_bind (C.ask hk h1 h2 (wpS_pure h))
theorem qt{st:SortSt}{l:Bool}{key:Keyed}{xs:Array Keyed}{b n h:Nat}{Q:Option Nat→SortSt→Prop}(g:Nat→Keyed)(hk:kindOf st=κ)(h1:key∈X)(hg:∀i,i<n→xs[b+i]?=some (g i)∧g i∈X)(Q0:∀i j,i<j→j<n→lt (g i) (g j)=true)(hh:h<n)
  (q:∀k,k≤n→(∀i,i<k→lb lt l key (g i)=true)→(∀i,k≤i→i<n→lb lt l key (g i)=false)→Q (some k) st):wpS (model prog w) A E s (yB l key xs b n h) Q st:=by
 have dn:∀i j,i≤j→j<n→lb lt l key (g j)=true→lb lt l key (g i)=true:=fun i j uh hj hb=>by
  by_cases e:i=j
  ·rw[e];exact hb
  have hl:=Q0 i j Zx hj;unfold lb at hb⊢;cases l with
  |true=>exact C.tr _ (hg i Zx).2 _ (hg j hj).2 _ h1 hl hb
  |false=>
   simp only[Bool.false_eq_true,if_false,Bool.not_eq_true']at hb⊢;cases e2:lt key (g i)with
   |false=>rfl
   |true=>rw[C.tr _ h1 _ (hg i Zx).2 _ (hg j hj).2 e2 hl]at hb;cases hb
 have up:∀i j,i≤j→j<n→lb lt l key (g i)=false→lb lt l key (g j)=false:=fun i j uh hj hb=>by
  cases e:lb lt l key (g j)with
  |false=>rfl
  |true=>rw[dn i j uh hj e]at hb;cases hb
 have bin:∀lo hi,lo≤hi→hi≤n→(∀i,i<lo→lb lt l key (g i)=true)→(∀i,hi≤i→i<n→lb lt l key (g i)=false)→wpS (model prog w) A E s (do
   let r←forIn [0:n] ((none,lo,hi):Option (Option Nat)×Nat×Nat) fun _ __s=>
    if __s.2.1≥__s.2.2 then pure (ForInStep.done (none,__s.2.1,__s.2.2))
    else do
     let __x←z9 l key xs b (__s.2.1+(__s.2.2-__s.2.1)/2)
     match __x with
     |some z=>if z=true then pure (ForInStep.yield (none,__s.2.1+(__s.2.2-__s.2.1)/2+1,__s.2.2))else pure (ForInStep.yield (none,__s.2.1,__s.2.1+(__s.2.2-__s.2.1)/2))
     | _=>pure (ForInStep.done (some none,__s.2.1,__s.2.2))
   match r.1 with
   |some r=>pure r
   |none=>pure (some r.2.2)) Q st:=fun lo hi h2 h3 h4 h5=>by
  refine wpS_bind (wpS_mono (wpS_forRange (I:=fun x c aT=>aT=st∧∃lo hi,c=(none,lo,hi)∧lo≤hi∧hi≤n∧(∀i,i<lo→lb lt l key (g i)=true)∧(∀i,hi≤i→i<n→lb lt l key (g i)=false)∧hi-lo+x≤n) (Q:=fun c aT=>aT=st∧∃k,c.1=none∧c.2.2=k∧k≤n∧(∀i,i<k→lb lt l key (g i)=true)∧(∀i,k≤i→i<n→lb lt l key (g i)=false)) ?_ ?_ ⟨rfl,lo,hi,rfl,h2,h3,h4,h5,by lia⟩) ?_)
  ·rintro x c aT _ hx ⟨rfl,lo,hi,rfl,a1,a2,a3,a4,a5⟩;dsimp only;by_cases Uc:lo≥hi
   ·rw[Zp Uc];have:lo=hi:=by lia
    subst this;exact wpS_pure ⟨rfl,lo,rfl,rfl,a2,a3,a4⟩
   ·rw[Zm Uc];have hm:lo+(hi-lo)/2<n:=by lia
    obtain⟨g1,g2⟩:=hg _ hm;refine wpS_bind (sj C hk h1 g2 g1 ?_);dsimp only;cases e:lb lt l key (g (lo+(hi-lo)/2))with
    |true=>
     simp only[if_true];exact wpS_pure ⟨rfl,_,hi,rfl,by lia,a2,fun i A8=>dn i _ (by lia) hm e,a4,by lia⟩
    |false=>
     simp only[Bool.false_eq_true,if_false];exact wpS_pure ⟨rfl,lo,_,rfl,by lia,by lia,a3,fun i A8 n6=>up _ i A8 n6 e,by lia⟩
  ·rintro c aT ⟨rfl,lo,hi,rfl,a1,a2,a3,a4,a5⟩;have:lo=hi:=by lia
   subst this;exact⟨rfl,lo,rfl,rfl,a2,a3,a4⟩
  ·rintro⟨c1,c2,c3⟩ aT ⟨rfl,k,e1,e2,a2,a3,a4⟩;dsimp only at e1 e2⊢;subst e1 e2;exact wpS_pure (q _ a2 a3 a4)
 rw[GX];obtain⟨Wl,Wm⟩:=hg h hh;refine wpS_bind (sj C hk h1 Wm Wl ?_);dsimp only;cases e:lb lt l key (g h)with
 |true=>
  simp only[if_true];refine wpS_bind (wpS_mono (wpS_forRange (I:=fun x c aT=>aT=st∧∃u v,c=(none,u,v)∧u<v∧h+u<n∧lb lt l key (g (h+u))=true∧x<v) (Q:=fun c aT=>aT=st∧∃u v,c=(none,u,v)∧u<v∧h+u<n∧lb lt l key (g (h+u))=true∧(n-h≤v∨(h+v<n∧lb lt l key (g (h+v))=false))) ?_ ?_ ⟨rfl,0,1,rfl,by lia,by lia,e,by lia⟩) ?_)
  ·rintro x c aT _ hx ⟨rfl,u,v,rfl,a1,a2,a3,a4⟩;dsimp only;by_cases hv:v≥n-h
   ·rw[Zp hv];exact wpS_pure ⟨rfl,u,v,rfl,a1,a2,a3, .inl hv⟩
   ·rw[Zm hv];obtain⟨g1,g2⟩:=hg (h+v) (by lia);refine wpS_bind (sj C hk h1 g2 g1 ?_);dsimp only;cases e2:lb lt l key (g (h+v))with
    |false=>
     simp only[Bool.not_false,if_true];exact wpS_pure ⟨rfl,u,v,rfl,a1,a2,a3, .inr ⟨by lia,e2⟩⟩
    |true=>
     simp only[Bool.not_true,Bool.false_eq_true,if_false];exact wpS_pure ⟨rfl,v,2*v+1,rfl,by lia,by lia,e2,by lia⟩
  ·rintro c aT ⟨rfl,u,v,rfl,a1,a2,a3,a4⟩;exact⟨rfl,u,v,rfl,a1,a2,a3, .inl Zx⟩
  ·rintro c aT ⟨rfl,u,v,rfl,a1,a2,a3,a4⟩;dsimp only;refine Eq.mp (by kernel_rfl) (bin (h+u+1) (h+min v (n-h)) (by lia) (by lia) (fun i hi=>dn i (h+u) (by lia) a2 a3) fun i hi n6=>?_);rcases a4 with a4|⟨a4,a5⟩
   ·lia
   ·exact up (h+v) i Zx n6 a5
 |false=>
  simp only[Bool.false_eq_true,if_false];refine wpS_bind (wpS_mono (wpS_forRange (I:=fun x c aT=>aT=st∧∃u v,c=(none,u,v)∧u<v∧u≤h∧lb lt l key (g (h-u))=false∧x<v) (Q:=fun c aT=>aT=st∧∃u v,c=(none,u,v)∧u<v∧u≤h∧lb lt l key (g (h-u))=false∧(h+1≤v∨(v≤h∧lb lt l key (g (h-v))=true))) ?_ ?_ ⟨rfl,0,1,rfl,by lia,by lia,e,by lia⟩) ?_)
  ·rintro x c aT _ hx ⟨rfl,u,v,rfl,a1,a2,a3,a4⟩;dsimp only;by_cases hv:v≥h+1
   ·rw[Zp hv];exact wpS_pure ⟨rfl,u,v,rfl,a1,a2,a3, .inl hv⟩
   ·rw[Zm hv];obtain⟨g1,g2⟩:=hg (h-v) (by lia);refine wpS_bind (sj C hk h1 g2 g1 ?_);dsimp only;cases e2:lb lt l key (g (h-v))with
    |true=>
     simp only[if_true];exact wpS_pure ⟨rfl,u,v,rfl,a1,a2,a3, .inr ⟨by lia,e2⟩⟩
    |false=>
     simp only[Bool.false_eq_true,if_false];exact wpS_pure ⟨rfl,v,2*v+1,rfl,by lia,by lia,e2,by lia⟩
  ·rintro c aT ⟨rfl,u,v,rfl,a1,a2,a3,a4⟩;exact⟨rfl,u,v,rfl,a1,a2,a3, .inl Zx⟩
  ·rintro c aT ⟨rfl,u,v,rfl,a1,a2,a3,a4⟩;dsimp only;refine Eq.mp (by kernel_rfl) (bin (h+1-min v (h+1)) (h-u) (by lia) (by lia) (fun i hi=>?_) fun i hi n6=>up (h-u) i Zx n6 a3);rcases a4 with a4|⟨a4,a5⟩
   ·lia
   ·exact dn i (h-v) (by lia) (by lia) a5
end
def setG(g:Nat):StateT SortSt Sem Unit:=modify fun st=>SortSt.mk' (kindOf st) (arrOf st) (pendingOf st) g (failedOf st)
def FK(a b out:Array Keyed)(i j:Nat):Array Keyed:=out++a.extract i a.size++b.extract j b.size
def LW(a b out:Array Keyed)(i j:Nat):Array Keyed:=out++b.extract j b.size++a.extract i a.size
abbrev S1:=Option (Array Keyed)×Array Keyed×Nat×Nat×Nat×Nat
abbrev S2:=Option (Array Keyed)×Array Keyed×Nat×Nat×Nat×Nat×Nat
abbrev S3:=Option (Array Keyed)×Array Keyed×Nat×Nat×Nat
def lo1(a b:Array Keyed)(mg:Nat)(c:S1):StateT SortSt Sem (ForInStep S1):=do
 let y←elem' b c.2.2.2.1
 let x←elem' a c.2.2.1
 let z←lt' y x
 match z with
 |some bw=>
  if bw=true then do
   let y←elem' b c.2.2.2.1
   if (c.2.2.2.1+1==b.size)=true then pure (.done (some (FK a b (c.2.1.push y) c.2.2.1 (c.2.2.2.1+1)),c.2.1.push y,c.2.2.1,c.2.2.2.1+1,0,c.2.2.2.2.2+1))
   else if c.2.2.2.2.2+1≥mg then pure (.done (none,c.2.1.push y,c.2.2.1,c.2.2.2.1+1,0,c.2.2.2.2.2+1))
   else pure (.yield (none,c.2.1.push y,c.2.2.1,c.2.2.2.1+1,0,c.2.2.2.2.2+1))
  else do
   let x←elem' a c.2.2.1
   if (c.2.2.1+1+1==a.size)=true then pure (.done (some (LW a b (c.2.1.push x) (c.2.2.1+1) c.2.2.2.1),c.2.1.push x,c.2.2.1+1,c.2.2.2.1,c.2.2.2.2.1+1,0))
   else if c.2.2.2.2.1+1≥mg then pure (.done (none,c.2.1.push x,c.2.2.1+1,c.2.2.2.1,c.2.2.2.2.1+1,0))
   else pure (.yield (none,c.2.1.push x,c.2.2.1+1,c.2.2.2.1,c.2.2.2.2.1+1,0))
 | _=>pure (.done (some (FK a b c.2.1 c.2.2.1 c.2.2.2.1),c.2.1,c.2.2.1,c.2.2.2.1,c.2.2.2.2.1,c.2.2.2.2.2))
def Pa(a b o:Array Keyed)(i j mg k l:Nat):StateT SortSt Sem (ForInStep S2):=do
 let x←elem' a i
 if (i+1+1==a.size)=true then pure (.done (some (LW a b (o.push x) (i+1) j),o.push x,i+1,j,mg,k,l))
 else if (decide (k<7)&&decide (l<7))=true then pure (.done (none,o.push x,i+1,j,mg,k,l))
 else pure (.yield (none,o.push x,i+1,j,mg,k,l))
def Rw(a b o:Array Keyed)(i j mg k bc:Nat):StateT SortSt Sem (ForInStep S2):=do
 let x←elem' a i
 let z←yB true x b j (b.size-j) 0
 match z with
 |some l=>if l>0 then(if (j+l==b.size)=true then pure (.done (some (FK a b (o++b.extract j (j+l)) i (j+l)),o++b.extract j (j+l),i,j+l,mg,k,l))else Pa a b (o++b.extract j (j+l)) i (j+l) mg k l)else Pa a b o i j mg k l
 | _=>pure (.done (some (FK a b o i j),o,i,j,mg,k,bc))
def Pb(a b o:Array Keyed)(i j mg k bc:Nat):StateT SortSt Sem (ForInStep S2):=do
 let y←elem' b j
 if (j+1==b.size)=true then pure (.done (some (FK a b (o.push y) i (j+1)),o.push y,i,j+1,mg,k,bc))else Rw a b (o.push y) i (j+1) mg k bc
def Pc(a b o:Array Keyed)(i j mg ac bc:Nat):StateT SortSt Sem (ForInStep S2):=do
 setG mg
 let y←elem' b j
 let z←yB false y a i (a.size-i) 0
 match z with
 |some k=>if k>0 then(if (i+k+1==a.size)=true then pure (.done (some (LW a b (o++a.extract i (i+k)) (i+k) j),o++a.extract i (i+k),i+k,j,mg,k,bc))else if (i+k==a.size)=true then pure (.done (some (FK a b (o++a.extract i (i+k)) (i+k) j),o++a.extract i (i+k),i+k,j,mg,k,bc))else Pb a b (o++a.extract i (i+k)) (i+k) j mg k bc)else Pb a b o i j mg k bc
 | _=>pure (.done (some (FK a b o i j),o,i,j,mg,ac,bc))
def Rx(a b:Array Keyed)(c:S2):StateT SortSt Sem (ForInStep S2):=if c.2.2.2.2.1>1 then Pc a b c.2.1 c.2.2.1 c.2.2.2.1 (c.2.2.2.2.1-1) c.2.2.2.2.2.1 c.2.2.2.2.2.2 else Pc a b c.2.1 c.2.2.1 c.2.2.2.1 c.2.2.2.2.1 c.2.2.2.2.2.1 c.2.2.2.2.2.2
def Ry(a b:Array Keyed)(c:S3):StateT SortSt Sem (ForInStep S3):=do
 let t←forIn [0:a.size+b.size] ((none,c.2.1,c.2.2.1,c.2.2.2.1,0,0):S1) (fun _=>lo1 a b c.2.2.2.2)
 match t.1 with
 |some r=>pure (.done (some r,t.2.1,t.2.2.1,t.2.2.2.1,c.2.2.2.2))
 |none=>do
  liftM (rule "list.sort.gallop")
  let u←forIn [0:a.size+b.size] ((none,t.2.1,t.2.2.1,t.2.2.2.1,c.2.2.2.2+1,t.2.2.2.2.1,t.2.2.2.2.2):S2) (fun _=>Rx a b)
  match u.1 with
  |some r=>pure (.done (some r,u.2.1,u.2.2.1,u.2.2.2.1,u.2.2.2.2.1))
  |none=>do
   setG (u.2.2.2.2.1+1)
   pure (.yield (none,u.2.1,u.2.2.1,u.2.2.2.1,u.2.2.2.2.1+1))
theorem GY(a b:Array Keyed):Kl a b=(do
 liftM (rule "list.sort.merge-lo")
 let y←elem' b 0
 if (1==b.size)=true then pure (FK a b #[y] 0 1)
 else if (0+1==a.size)=true then pure (LW a b #[y] 0 1)
 else do
  let g←get
  let t←forIn [0:a.size+b.size] ((none,#[y],0,1,gallopOf g):S3) (fun _=>Ry a b)
  match t.1 with
  |some r=>pure r
  |none=>unsupported "internal:list.sort.merge-bound"):=by kernel_rfl
def FN(a b o:Array Keyed)(i j:Nat):Array Keyed:=a.extract 0 i++b.extract 0 j++o.reverse
def LX(a b o:Array Keyed)(i j:Nat):Array Keyed:=b.extract 0 j++a.extract 0 i++o.reverse
abbrev T1:=Option (Array Keyed)×Nat×Nat×Array Keyed×Nat×Nat
abbrev T2:=Option (Array Keyed)×Nat×Nat×Array Keyed×Nat×Nat×Nat
abbrev T3:=Option (Array Keyed)×Nat×Nat×Array Keyed×Nat
def Rz(a b:Array Keyed)(mg:Nat)(c:T1):StateT SortSt Sem (ForInStep T1):=do
 let y←elem' b (c.2.2.1-1)
 let x←elem' a (c.2.1-1)
 let z←lt' y x
 match z with
 |some aw=>
  if aw=true then do
   let x←elem' a (c.2.1-1)
   if (c.2.1-1==0)=true then pure (.done (some (FN a b (c.2.2.2.1.push x) (c.2.1-1) c.2.2.1),c.2.1-1,c.2.2.1,c.2.2.2.1.push x,c.2.2.2.2.1+1,0))
   else if c.2.2.2.2.1+1≥mg then pure (.done (none,c.2.1-1,c.2.2.1,c.2.2.2.1.push x,c.2.2.2.2.1+1,0))
   else pure (.yield (none,c.2.1-1,c.2.2.1,c.2.2.2.1.push x,c.2.2.2.2.1+1,0))
  else do
   let y←elem' b (c.2.2.1-1)
   if (c.2.2.1-1==1)=true then pure (.done (some (LX a b (c.2.2.2.1.push y) c.2.1 (c.2.2.1-1)),c.2.1,c.2.2.1-1,c.2.2.2.1.push y,0,c.2.2.2.2.2+1))
   else if c.2.2.2.2.2+1≥mg then pure (.done (none,c.2.1,c.2.2.1-1,c.2.2.2.1.push y,0,c.2.2.2.2.2+1))
   else pure (.yield (none,c.2.1,c.2.2.1-1,c.2.2.2.1.push y,0,c.2.2.2.2.2+1))
 | _=>pure (.done (some (FN a b c.2.2.2.1 c.2.1 c.2.2.1),c.2.1,c.2.2.1,c.2.2.2.1,c.2.2.2.2.1,c.2.2.2.2.2))
def Pd(a b o:Array Keyed)(i j mg k l:Nat):StateT SortSt Sem (ForInStep T2):=do
 let x←elem' a (i-1)
 if (i-1==0)=true then pure (.done (some (FN a b (o.push x) (i-1) j),i-1,j,o.push x,mg,k,l))
 else if (decide (k<7)&&decide (l<7))=true then pure (.done (none,i-1,j,o.push x,mg,k,l))
 else pure (.yield (none,i-1,j,o.push x,mg,k,l))
def RA(a b o:Array Keyed)(i j mg k bc:Nat):StateT SortSt Sem (ForInStep T2):=do
 let x←elem' a (i-1)
 let z←yB true x b 0 j (j-1)
 match z with
 |some t=>if j-t>0 then(if (t==1)=true then pure (.done (some (LX a b (o++(b.extract t j).reverse) i t),i,t,o++(b.extract t j).reverse,mg,k,j-t))else if (t==0)=true then pure (.done (some (FN a b (o++(b.extract t j).reverse) i t),i,t,o++(b.extract t j).reverse,mg,k,j-t))else Pd a b (o++(b.extract t j).reverse) i t mg k (j-t))else Pd a b o i j mg k (j-t)
 | _=>pure (.done (some (FN a b o i j),i,j,o,mg,k,bc))
def Pe(a b o:Array Keyed)(i j mg k bc:Nat):StateT SortSt Sem (ForInStep T2):=do
 let y←elem' b (j-1)
 if (j-1==1)=true then pure (.done (some (LX a b (o.push y) i (j-1)),i,j-1,o.push y,mg,k,bc))else RA a b (o.push y) i (j-1) mg k bc
def FO(a b o:Array Keyed)(i j mg ac bc:Nat):StateT SortSt Sem (ForInStep T2):=do
 setG mg
 let y←elem' b (j-1)
 let z←yB false y a 0 i (i-1)
 match z with
 |some t=>if i-t>0 then(if (t==0)=true then pure (.done (some (FN a b (o++(a.extract t i).reverse) t j),t,j,o++(a.extract t i).reverse,mg,i-t,bc))else Pe a b (o++(a.extract t i).reverse) t j mg (i-t) bc)else Pe a b o i j mg (i-t) bc
 | _=>pure (.done (some (FN a b o i j),i,j,o,mg,ac,bc))
def RB(a b:Array Keyed)(c:T2):StateT SortSt Sem (ForInStep T2):=if c.2.2.2.2.1>1 then FO a b c.2.2.2.1 c.2.1 c.2.2.1 (c.2.2.2.2.1-1) c.2.2.2.2.2.1 c.2.2.2.2.2.2 else FO a b c.2.2.2.1 c.2.1 c.2.2.1 c.2.2.2.2.1 c.2.2.2.2.2.1 c.2.2.2.2.2.2
def RD(a b:Array Keyed)(c:T3):StateT SortSt Sem (ForInStep T3):=do
 let t←forIn [0:a.size+b.size] ((none,c.2.1,c.2.2.1,c.2.2.2.1,0,0):T1) (fun _=>Rz a b c.2.2.2.2)
 match t.1 with
 |some r=>pure (.done (some r,t.2.1,t.2.2.1,t.2.2.2.1,c.2.2.2.2))
 |none=>do
  liftM (rule "list.sort.gallop")
  let u←forIn [0:a.size+b.size] ((none,t.2.1,t.2.2.1,t.2.2.2.1,c.2.2.2.2+1,t.2.2.2.2.1,t.2.2.2.2.2):T2) (fun _=>RB a b)
  match u.1 with
  |some r=>pure (.done (some r,u.2.1,u.2.2.1,u.2.2.2.1,u.2.2.2.2.1))
  |none=>do
   setG (u.2.2.2.2.1+1)
   pure (.yield (none,u.2.1,u.2.2.1,u.2.2.2.1,u.2.2.2.2.1+1))
theorem GZ(a b:Array Keyed):Km a b=(do
 liftM (rule "list.sort.merge-hi")
 let x←elem' a (a.size-1)
 if (a.size-1==0)=true then pure (FN a b #[x] (a.size-1) b.size)
 else if (b.size==1)=true then pure (LX a b #[x] (a.size-1) b.size)
 else do
  let g←get
  let t←forIn [0:a.size+b.size] ((none,a.size-1,b.size,#[x],gallopOf g):T3) (fun _=>RD a b)
  match t.1 with
  |some r=>pure r
  |none=>unsupported "internal:list.sort.merge-bound"):=by kernel_rfl
theorem lH{α:Type}{l:List α}{i:Nat}{x:α}:x∈l.drop i↔∃t:Nat,l[i+t]?=some x:=by
 rw[List.mem_iff_getElem?];simp only[List.getElem?_drop]
theorem sZ{α:Type}{l:List α}{i k:Nat}{x:α}:x∈(l.drop i).take k↔∃t:Nat,t<k∧l[i+t]?=some x:=by
 rw[List.mem_iff_getElem?];constructor
 ·rintro⟨t,ht⟩;rw[List.getElem?_take]at ht;split at ht
  ·rw[List.getElem?_drop]at ht;exact⟨t,by assumption,ht⟩
  ·cases ht
 ·rintro⟨t,h1,h2⟩;exact⟨t,by rw[List.getElem?_take,Zp h1,List.getElem?_drop];exact h2⟩
theorem oO{α:Type}{l:List α}{i:Nat}{x:α}(h:l[i]?=some x):l.drop i=x::l.drop (i+1):=by
 obtain⟨h1,h2⟩:=Y' h;rw[List.drop_eq_getElem_cons h1,h2]
theorem oP{α:Type}(l:List α)(i k:Nat):l.drop i=(l.drop i).take k++l.drop (i+k):=by
 rw[←List.drop_drop,List.take_append_drop]
abbrev Pw(lt:Keyed→Keyed→Bool)(l:List Keyed):Prop:=l.Pairwise fun x y=>lt x y=true
theorem Pw.at{lt:Keyed→Keyed→Bool}{l:List Keyed}(h:Pw lt l){i j:Nat}{x y:Keyed}(uh:i<j)(hx:l[i]?=some x)(hy:l[j]?=some y):lt x y=true:=by
 obtain⟨h1,e1⟩:=Y' hx;obtain⟨h2,e2⟩:=Y' hy;have:=List.pairwise_iff_getElem.mp h i j h1 h2 uh;rw[e1,e2]at this;exact this
section
variable{X:List Keyed}{lt:Keyed→Keyed→Bool}{P Q:List Keyed}
structure MC(X:List Keyed)(lt:Keyed→Keyed→Bool)(P Q:List Keyed):Prop where
 sa:Pw lt P
 sb:Pw lt Q
 ia:∀x∈P,x∈X
 ib:∀x∈Q,x∈X
 ne:∀x∈P,∀y∈Q,x≠y
 fst:∀x∈P,∀y,Q[0]?=some y→lt y x=true
 lst:∀y∈Q,∀x,P[P.length-1]?=some x→lt y x=true
structure ML(lt:Keyed→Keyed→Bool)(P Q O:List Keyed)(i j:Nat):Prop where
 hi:i≤P.length
 hj:j≤Q.length
 qu:Pw lt O
 low:∀x∈O,∀y,y∈P.drop i∨y∈Q.drop j→lt x y=true
 G0:(O++(P.drop i++Q.drop j)).Perm (P++Q)
def MG(lt:Keyed→Keyed→Bool)(P Q R:List Keyed):Prop:=R.Perm (P++Q)∧Pw lt R
theorem ML.a{O:List Keyed}{i j k:Nat}(M:MC X lt P Q)(m:ML lt P Q O i j)(hk:i+k≤P.length)(h:∀x∈(P.drop i).take k,∀y∈Q.drop j,lt x y=true):ML lt P Q (O++(P.drop i).take k) (i+k) j:=by
 have sp:=oP P i k;have sd:Pw lt (P.drop i):=M.sa.sublist (List.drop_sublist _ _);rw[sp]at sd;obtain⟨s1,s2,s3⟩:=List.pairwise_append.mp sd;refine⟨hk,m.hj,List.pairwise_append.mpr ⟨m.qu,s1,fun x hx y hy=>m.low x hx y (.inl (List.mem_of_mem_take hy))⟩,fun x hx y hy=>?_,?_⟩
 ·rcases List.mem_append.mp hx with hx|hx
  ·exact m.low x hx y (hy.imp (fun z=>by rw[sp];exact List.mem_append_right _ z) id)
  ·rcases hy with hy|hy
   ·exact s3 x hx y hy
   ·exact h x hx y hy
 ·have:=m.G0;rw[sp]at this;rw[List.append_assoc,←List.append_assoc ((P.drop i).take k)];exact this
theorem ML.b{O:List Keyed}{i j k:Nat}(M:MC X lt P Q)(m:ML lt P Q O i j)(hk:j+k≤Q.length)(h:∀y∈(Q.drop j).take k,∀x∈P.drop i,lt y x=true):ML lt P Q (O++(Q.drop j).take k) i (j+k):=by
 have sp:=oP Q j k;have sd:Pw lt (Q.drop j):=M.sb.sublist (List.drop_sublist _ _);rw[sp]at sd;obtain⟨s1,s2,s3⟩:=List.pairwise_append.mp sd;refine⟨m.hi,hk,List.pairwise_append.mpr ⟨m.qu,s1,fun x hx y hy=>m.low x hx y (.inr (List.mem_of_mem_take hy))⟩,fun x hx y hy=>?_,?_⟩
 ·rcases List.mem_append.mp hx with hx|hx
  ·exact m.low x hx y (hy.imp id (fun z=>by rw[sp];exact List.mem_append_right _ z))
  ·rcases hy with hy|hy
   ·exact h x hx y hy
   ·exact s3 x hx y hy
 ·have:=m.G0;rw[sp]at this;refine List.Perm.trans ?_ this;rw[List.append_assoc];refine List.Perm.append_left O ?_;rw[←List.append_assoc,←List.append_assoc];exact List.Perm.append_right _ List.perm_append_comm
theorem ML.dn{O:List Keyed}{i j:Nat}(M:MC X lt P Q)(m:ML lt P Q O i j)(h:i=P.length∨j=Q.length):MG lt P Q (O++P.drop i++Q.drop j):=by
 refine⟨by rw[List.append_assoc];exact m.G0,?_⟩;have sa:Pw lt (P.drop i):=M.sa.sublist (List.drop_sublist _ _);have sb:Pw lt (Q.drop j):=M.sb.sublist (List.drop_sublist _ _);rw[List.append_assoc];refine List.pairwise_append.mpr ⟨m.qu,List.pairwise_append.mpr ⟨sa,sb,fun x hx y hy=>?_⟩,fun x hx y hy=>m.low x hx y (List.mem_append.mp hy)⟩;rcases h with h|h
 ·rw[h,List.drop_length]at hx;cases hx
 ·rw[h,List.drop_length]at hy;cases hy
theorem ML.ls{O:List Keyed}{i j:Nat}(M:MC X lt P Q)(m:ML lt P Q O i j)(h:i+1=P.length):MG lt P Q (O++Q.drop j++P.drop i):=by
 have sa:Pw lt (P.drop i):=M.sa.sublist (List.drop_sublist _ _);have sb:Pw lt (Q.drop j):=M.sb.sublist (List.drop_sublist _ _);rw[List.append_assoc];refine⟨(List.Perm.append_left O List.perm_append_comm).trans m.G0,List.pairwise_append.mpr ⟨m.qu,List.pairwise_append.mpr ⟨sb,sa,fun y hy x hx=>?_⟩,fun x hx y hy=>m.low x hx y (List.mem_append.mp hy).symm⟩⟩;obtain⟨t,ht⟩:=lH.mp hx;have hl:=(Y' ht).1;exact M.lst y (List.mem_of_mem_drop hy) x (by rw[←ht];congr 1;lia)
end
def Eg(st aT:SortSt):Prop:=kindOf aT=kindOf st∧arrOf aT=arrOf st∧pendingOf aT=pendingOf st∧failedOf aT=failedOf st
theorem Eg.refl(st:SortSt):Eg st st:=⟨rfl,rfl,rfl,rfl⟩
theorem Eg.trans{a b c:SortSt}(h:Eg a b)(k:Eg b c):Eg a c:=⟨k.1.trans h.1,k.2.1.trans h.2.1,k.2.2.1.trans h.2.2.1,k.2.2.2.trans h.2.2.2⟩
section
variable{prog:Program}{w:World}{A:Around}{E:Value→Shared→Prop}{s:Shared}{X:List Keyed}{κ:SortKind}{lt:Keyed→Keyed→Bool}(C:EC prog w A s X κ lt){a b:Array Keyed}(M:MC X lt a.toList b.toList)
theorem sk{st:SortSt}{g:Nat}{Q:Unit→SortSt→Prop}(h:∀aT,Eg st aT→Q () aT):wpS (model prog w) A E s (setG g) Q st:=wpS_modify (h _ ⟨rfl,rfl,rfl,rfl⟩)
theorem yC(o:Array Keyed)(i j:Nat):(FK a b o i j).toList=o.toList++a.toList.drop i++b.toList.drop j:=by
 unfold FK;simp[Array.toList_extract,List.extract_eq_take_drop];rw[List.take_of_length_le Zu,List.take_of_length_le Zu]
theorem Bo(o:Array Keyed)(i j:Nat):(LW a b o i j).toList=o.toList++b.toList.drop j++a.toList.drop i:=by
 unfold LW;simp[Array.toList_extract,List.extract_eq_take_drop];rw[List.take_of_length_le Zu,List.take_of_length_le Zu]
theorem IC(o:Array Keyed)(c:Array Keyed)(i k:Nat):(o++c.extract i (i+k)).toList=o.toList++(c.toList.drop i).take k:=by
 simp[Array.toList_extract,List.extract_eq_take_drop]
theorem FP{l:List Keyed}{i:Nat}{x:Keyed}(h:l[i]?=some x):(l.drop i).take 1=[x]:=by rw[oO h];simp
def Bp(lt:Keyed→Keyed→Bool)(a b:Array Keyed)(o:Array Keyed)(i j m:Nat):Prop:=ML lt a.toList b.toList o.toList i j∧i+1<a.size∧j<b.size∧m≤i+j
def P2(lt:Keyed→Keyed→Bool)(a b:Array Keyed)(m:Nat)(st:SortSt)(r:ForInStep S2)(aT:SortSt):Prop:=Eg st aT∧match r with
 | .done c=>(∃x,c.1=some x∧MG lt a.toList b.toList x.toList)∨(c.1=none∧Bp lt a b c.2.1 c.2.2.1 c.2.2.2.1 m)
 | .yield c=>c.1=none∧Bp lt a b c.2.1 c.2.2.1 c.2.2.2.1 m
include C M
theorem ED{st:SortSt}{o:Array Keyed}{i j mg k l m:Nat}(ml:ML lt a.toList b.toList o.toList i j)(hi:i+1<a.size)(hj:j<b.size)(hm:m≤i+j+1)(h:∀x,a.toList[i]?=some x→∀y∈b.toList.drop j,lt x y=true):wpS (model prog w) A E s (Pa a b o i j mg k l) (P2 lt a b m st) st:=by
 unfold Pa;have ex:a[i]?=some a[i]:=ZD;have gJ:a.toList[i]?=some a[i]:=by rw[Array.getElem?_toList];exact ex
 refine wpS_bind (eZ ex ?_);have m2:ML lt a.toList b.toList (o.push a[i]).toList (i+1) j:=by
  have:=ml.a M (k:=1) (by simp;lia) (fun x hx y hy=>by
   rw[FP gJ]at hx;have:x=a[i]:=by simpa using hx
   rw[this];exact h _ gJ y hy)
  rw[FP gJ]at this;rw[Array.toList_push];exact this
 by_cases e:(i+1+1==a.size)=true
 ·rw[Zp e];refine wpS_pure ⟨.refl _, .inl ⟨_,rfl,?_⟩⟩;rw[Bo];exact m2.ls M (by have:=beq_iff_eq.mp e;simp;lia)
 ·rw[Zm e];have e:i+1+1≠a.size:=fun z=>e (beq_iff_eq.mpr z)
  split
  ·exact wpS_pure ⟨.refl _, .inr ⟨rfl,m2,by show i+1+1<a.size;lia,hj,by show m≤i+1+j;lia⟩⟩
  ·exact wpS_pure ⟨.refl _,rfl,m2,by show i+1+1<a.size;lia,hj,by show m≤i+1+j;lia⟩
theorem Kn{st:SortSt}{o:Array Keyed}{i j mg k bc m:Nat}(hk:kindOf st=κ)(ml:ML lt a.toList b.toList o.toList i j)(hi:i+1<a.size)(hj:j<b.size)(hm:m≤i+j+1):wpS (model prog w) A E s (Rw a b o i j mg k bc) (P2 lt a b m st) st:=by
 unfold Rw;have ex:a[i]?=some a[i]:=ZD;have gJ:a.toList[i]?=some a[i]:=by rw[Array.getElem?_toList];exact ex
 have hx:a[i]∈a.toList:=Zk gJ;refine wpS_bind (eZ ex ?_);generalize a[i]=x at ex gJ hx;have gb:∀t,t<b.size-j→b[j+t]?=some (b.getD (j+t) (.none, .none)):=fun t ht=>by simp[show j+t<b.size by lia]
 have rL:∀t,t<b.size-j→b.toList[j+t]?=some (b.getD (j+t) (.none, .none)):=fun t ht=>by rw[Array.getElem?_toList];exact gb t ht
 refine wpS_bind (qt C (fun t=>b.getD (j+t) (.none, .none)) hk (M.ia _ hx) (fun t ht=>⟨gb t ht,M.ib _ (Zk (rL t ht))⟩) (fun t u h1 h2=>M.sb.at (i:=j+t) (j:=j+u) (by lia) (rL t (by lia)) (rL u h2)) (by lia) fun l hl h1 h2=>?_);dsimp only;have low:∀y∈(b.toList.drop j).take l,∀z∈a.toList.drop i,lt y z=true:=fun y hy z hz=>by
  obtain⟨t,ht,et⟩:=sZ.mp hy;rw[rL t (by lia)]at et;cases et;have hb:=h1 t ht;simp only[lb,if_true]at hb;rw[oO gJ]at hz;rcases List.mem_cons.mp hz with rfl|hz
  ·exact hb
  ·obtain⟨u,hu⟩:=lH.mp hz;exact C.tr _ (M.ib _ (Zk (rL t (by lia)))) _ (M.ia _ hx) _ (M.ia _ (Zk hu)) hb (M.sa.at Zx gJ hu)
 have Z7:∀y∈b.toList.drop (j+l),lt x y=true:=fun y hy=>by
  obtain⟨t,ht⟩:=lH.mp hy;have hZ:=(Y' ht).1;have hZ:j+l+t<b.size:=by simpa using hZ
  have hb:=h2 (l+t) (by lia) (by lia);have e:b.toList[j+(l+t)]?=some y:=by rw[←Nat.add_assoc];exact ht
  rw[rL (l+t) (by lia)]at e;have e:=Zt e;simp only[lb,if_true]at hb;rw[e]at hb;exact C.no (M.ib _ (Zk ht)) (M.ia _ hx) (fun z=>M.ne _ hx _ (Zk ht) z.symm) hb
 have m2:ML lt a.toList b.toList (o++b.extract j (j+l)).toList i (j+l):=by
  rw[IC];exact ml.b M (by simp;lia) low
 by_cases Ko:l>0
 ·rw[Zp Ko];by_cases e:(j+l==b.size)=true
  ·rw[Zp e];refine wpS_pure ⟨.refl _, .inl ⟨_,rfl,?_⟩⟩;rw[yC];exact m2.dn M (.inr (by have:=beq_iff_eq.mp e;simpa using this))
  ·rw[Zm e];have e:j+l≠b.size:=fun z=>e (beq_iff_eq.mpr z)
   exact ED C M m2 hi Zx (by lia) fun y hy=>by rw[gJ]at hy;cases hy;exact Z7
 ·rw[Zm Ko];have:l=0:=by lia
  subst this;exact ED C M ml hi hj hm fun y hy=>by rw[gJ]at hy;cases hy;exact Z7
theorem EE{st:SortSt}{o:Array Keyed}{i j mg k bc m:Nat}(hk:kindOf st=κ)(ml:ML lt a.toList b.toList o.toList i j)(hi:i+1<a.size)(hj:j<b.size)(hm:m≤i+j+2)(h:∀y,b.toList[j]?=some y→∀x∈a.toList.drop i,lt y x=true):wpS (model prog w) A E s (Pb a b o i j mg k bc) (P2 lt a b m st) st:=by
 unfold Pb;have ex:b[j]?=some b[j]:=ZD;have gJ:b.toList[j]?=some b[j]:=by rw[Array.getElem?_toList];exact ex
 refine wpS_bind (eZ ex ?_);have m2:ML lt a.toList b.toList (o.push b[j]).toList i (j+1):=by
  have:=ml.b M (k:=1) (by simp;lia) (fun x hx y hy=>by
   rw[FP gJ]at hx;have:x=b[j]:=by simpa using hx
   rw[this];exact h _ gJ y hy)
  rw[FP gJ]at this;rw[Array.toList_push];exact this
 by_cases e:(j+1==b.size)=true
 ·rw[Zp e];refine wpS_pure ⟨.refl _, .inl ⟨_,rfl,?_⟩⟩;rw[yC];exact m2.dn M (.inr (by have:=beq_iff_eq.mp e;simpa using this))
 ·rw[Zm e];have e:j+1≠b.size:=fun z=>e (beq_iff_eq.mpr z)
  exact Kn C M hk m2 hi Zx (by lia)
theorem EF{st:SortSt}{o:Array Keyed}{i j mg ac bc m:Nat}(hk:kindOf st=κ)(h:Bp lt a b o i j m):wpS (model prog w) A E s (Pc a b o i j mg ac bc) (P2 lt a b (m+2) st) st:=by
 obtain⟨ml,hi,hj,hm⟩:=h;unfold Pc;refine wpS_bind (sk fun ZF eg=>?_);have ID:kindOf ZF=κ:=eg.1.trans hk;have fin:∀{m:Nat}{p:StateT SortSt Sem (ForInStep S2)},wpS (model prog w) A E s p (P2 lt a b m ZF) ZF→wpS (model prog w) A E s p (P2 lt a b m st) ZF:=fun h=>wpS_mono h fun r aT z=>⟨eg.trans z.1,z.2⟩
 refine fin ?_;have ex:b[j]?=some b[j]:=ZD;have gJ:b.toList[j]?=some b[j]:=by rw[Array.getElem?_toList];exact ex
 have hx:b[j]∈b.toList:=Zk gJ;refine wpS_bind (eZ ex ?_);generalize b[j]=y at ex gJ hx;have gb:∀t,t<a.size-i→a[i+t]?=some (a.getD (i+t) (.none, .none)):=fun t ht=>by simp[show i+t<a.size by lia]
 have rL:∀t,t<a.size-i→a.toList[i+t]?=some (a.getD (i+t) (.none, .none)):=fun t ht=>by rw[Array.getElem?_toList];exact gb t ht
 refine wpS_bind (qt C (fun t=>a.getD (i+t) (.none, .none)) ID (M.ib _ hx) (fun t ht=>⟨gb t ht,M.ia _ (Zk (rL t ht))⟩) (fun t u h1 h2=>M.sa.at (i:=i+t) (j:=i+u) (by lia) (rL t (by lia)) (rL u h2)) (by lia) fun k hl h1 h2=>?_);dsimp only;have low:∀x∈(a.toList.drop i).take k,∀z∈b.toList.drop j,lt x z=true:=fun x ui z hz=>by
  obtain⟨t,ht,et⟩:=sZ.mp ui;rw[rL t (by lia)]at et;cases et;have i8:=Zk (rL t (by lia));have hb:=h1 t ht;simp only[lb,Bool.false_eq_true,if_false,Bool.not_eq_true']at hb;have hb:=C.no (M.ib _ hx) (M.ia _ i8) (fun z=>M.ne _ i8 _ hx z.symm) hb;rw[oO gJ]at hz;rcases List.mem_cons.mp hz with rfl|hz
  ·exact hb
  ·obtain⟨u,hu⟩:=lH.mp hz;exact C.tr _ (M.ia _ i8) _ (M.ib _ hx) _ (M.ib _ (Zk hu)) hb (M.sb.at Zx gJ hu)
 have Z7:∀x∈a.toList.drop (i+k),lt y x=true:=fun x ui=>by
  obtain⟨t,ht⟩:=lH.mp ui;have hZ:=(Y' ht).1;have hZ:i+k+t<a.size:=by simpa using hZ
  have hb:=h2 (k+t) (by lia) (by lia);have e:a.toList[i+(k+t)]?=some x:=by rw[←Nat.add_assoc];exact ht
  rw[rL (k+t) (by lia)]at e;have e:=Zt e;simp only[lb,Bool.false_eq_true,if_false,Bool.not_eq_false']at hb;rw[e]at hb;exact hb
 have m2:ML lt a.toList b.toList (o++a.extract i (i+k)).toList (i+k) j:=by
  rw[IC];exact ml.a M (by simp;lia) low
 by_cases wO:k>0
 ·rw[Zp wO];by_cases e:(i+k+1==a.size)=true
  ·rw[Zp e];refine wpS_pure ⟨.refl _, .inl ⟨_,rfl,?_⟩⟩;rw[Bo];exact m2.ls M (by have:=beq_iff_eq.mp e;simpa using this)
  ·rw[Zm e];have e:i+k+1≠a.size:=fun z=>e (beq_iff_eq.mpr z)
   by_cases e2:(i+k==a.size)=true
   ·rw[Zp e2];refine wpS_pure ⟨.refl _, .inl ⟨_,rfl,?_⟩⟩;rw[yC];exact m2.dn M (.inl (by have:=beq_iff_eq.mp e2;simpa using this))
   ·rw[Zm e2];have e2:i+k≠a.size:=fun z=>e2 (beq_iff_eq.mpr z)
    exact EE C M ID m2 Zx hj Zx fun z hz=>by rw[gJ]at hz;cases hz;exact Z7
 ·rw[Zm wO];have:k=0:=by lia
  subst this;exact EE C M ID ml hi hj Zx fun z hz=>by rw[gJ]at hz;cases hz;exact Z7
theorem Kq{st:SortSt}{c:S2}{m:Nat}(hk:kindOf st=κ)(h:Bp lt a b c.2.1 c.2.2.1 c.2.2.2.1 m):wpS (model prog w) A E s (Rx a b c) (P2 lt a b (m+2) st) st:=by
 unfold Rx;split
 ·exact EF C M hk h
 ·exact EF C M hk h
theorem Kr{st:SortSt}{c:S1}{mg m:Nat}(hk:kindOf st=κ)(h:Bp lt a b c.2.1 c.2.2.1 c.2.2.2.1 m):wpS (model prog w) A E s (lo1 a b mg c) (fun r aT=>aT=st∧match r with
  | .done c=>(∃x,c.1=some x∧MG lt a.toList b.toList x.toList)∨(c.1=none∧Bp lt a b c.2.1 c.2.2.1 c.2.2.2.1 (m+1))
  | .yield c=>c.1=none∧Bp lt a b c.2.1 c.2.2.1 c.2.2.2.1 (m+1)) st:=by
 obtain⟨r,o,i,j,ac,bc⟩:=c;obtain⟨ml,hi,hj,hm⟩:=h;dsimp only at ml hi hj hm;unfold lo1;dsimp only;have ex:a[i]?=some a[i]:=ZD;have gJ:a.toList[i]?=some a[i]:=by rw[Array.getElem?_toList];exact ex
 have ey:b[j]?=some b[j]:=ZD;have Z5:b.toList[j]?=some b[j]:=by rw[Array.getElem?_toList];exact ey
 have hx:a[i]∈a.toList:=Zk gJ;have hy:b[j]∈b.toList:=Zk Z5;refine wpS_bind (eZ ey (wpS_bind (eZ ex ?_)));generalize a[i]=x at ex gJ hx;generalize b[j]=y at ey Z5 hy;refine wpS_bind (C.ask hk (M.ib _ hy) (M.ia _ hx) ?_);dsimp only;cases e:lt y x with
 |true=>
  rw[if_pos rfl];refine wpS_bind (eZ ey ?_);have m2:ML lt a.toList b.toList (o.push y).toList i (j+1):=by
   have:=ml.b M (k:=1) (by simp;lia) (fun y' NM z hz=>by
    rw[FP Z5]at NM;have:y'=y:=by simpa using NM
    rw[this];rw[oO gJ]at hz;rcases List.mem_cons.mp hz with rfl|hz
    ·exact e
    ·obtain⟨u,hu⟩:=lH.mp hz;exact C.tr _ (M.ib _ hy) _ (M.ia _ hx) _ (M.ia _ (Zk hu)) e (M.sa.at Zx gJ hu))
   rw[FP Z5]at this;rw[Array.toList_push];exact this
  by_cases e2:(j+1==b.size)=true
  ·rw[Zp e2];refine wpS_pure ⟨rfl, .inl ⟨_,rfl,?_⟩⟩;rw[yC];exact m2.dn M (.inr (by have:=beq_iff_eq.mp e2;simpa using this))
  ·rw[Zm e2];have e2:j+1≠b.size:=fun z=>e2 (beq_iff_eq.mpr z)
   split
   ·exact wpS_pure ⟨rfl, .inr ⟨rfl,m2,hi,by show j+1<b.size;lia,by show m+1≤i+(j+1);lia⟩⟩
   ·exact wpS_pure ⟨rfl,rfl,m2,hi,by show j+1<b.size;lia,by show m+1≤i+(j+1);lia⟩
 |false=>
  rw[if_neg Zu];refine wpS_bind (eZ ex ?_);have e:=C.no (M.ib _ hy) (M.ia _ hx) (fun z=>M.ne _ hx _ hy z.symm) e;have m2:ML lt a.toList b.toList (o.push x).toList (i+1) j:=by
   have:=ml.a M (k:=1) (by simp;lia) (fun x' ui z hz=>by
    rw[FP gJ]at ui;have:x'=x:=by simpa using ui
    rw[this];rw[oO Z5]at hz;rcases List.mem_cons.mp hz with rfl|hz
    ·exact e
    ·obtain⟨u,hu⟩:=lH.mp hz;exact C.tr _ (M.ia _ hx) _ (M.ib _ hy) _ (M.ib _ (Zk hu)) e (M.sb.at Zx Z5 hu))
   rw[FP gJ]at this;rw[Array.toList_push];exact this
  by_cases e2:(i+1+1==a.size)=true
  ·rw[Zp e2];refine wpS_pure ⟨rfl, .inl ⟨_,rfl,?_⟩⟩;rw[Bo];exact m2.ls M (by have:=beq_iff_eq.mp e2;simpa using this)
  ·rw[Zm e2];have e2:i+1+1≠a.size:=fun z=>e2 (beq_iff_eq.mpr z)
   split
   ·exact wpS_pure ⟨rfl, .inr ⟨rfl,m2,by show i+1+1<a.size;lia,hj,by show m+1≤i+1+j;lia⟩⟩
   ·exact wpS_pure ⟨rfl,rfl,m2,by show i+1+1<a.size;lia,hj,by show m+1≤i+1+j;lia⟩
theorem Kt{st:SortSt}{c:S3}{m:Nat}(hk:kindOf st=κ)(h:Bp lt a b c.2.1 c.2.2.1 c.2.2.2.1 m):wpS (model prog w) A E s (Ry a b c) (fun r aT=>Eg st aT∧match r with
  | .done c=>∃x,c.1=some x∧MG lt a.toList b.toList x.toList
  | .yield c=>c.1=none∧Bp lt a b c.2.1 c.2.2.1 c.2.2.2.1 (m+1)) st:=by
 unfold Ry;refine wpS_bind (wpS_mono (wpS_forRange (I:=fun x c aT=>aT=st∧c.1=none∧Bp lt a b c.2.1 c.2.2.1 c.2.2.2.1 (m+x)) (Q:=fun c aT=>aT=st∧((∃x,c.1=some x∧MG lt a.toList b.toList x.toList)∨(c.1=none∧Bp lt a b c.2.1 c.2.2.1 c.2.2.2.1 (m+1)))) ?_ ?_ ⟨rfl,rfl,h⟩) ?_)
 ·rintro x c aT _ hx ⟨rfl,hc,hI⟩;refine wpS_mono (Kr C M hk hI) fun r aT hr=>?_
  obtain⟨rfl,hr⟩:=hr;cases r with
  |done c=>exact⟨rfl,hr.imp id fun z=>⟨z.1,z.2.1,z.2.2.1,z.2.2.2.1,by have:=z.2.2.2.2;lia⟩⟩
  |yield c=>exact⟨rfl,hr.1,hr.2⟩
 ·rintro c aT ⟨rfl,hc,h1,h2,h3,h4⟩
  lia
 rintro t aT ⟨rfl,ht⟩;rcases ht with⟨x,e,hg⟩|⟨e,hI⟩
 ·rw[e];exact wpS_pure ⟨.refl _,x,rfl,hg⟩
 rw[e];dsimp only;refine wpS_bind (wpS_lift (wpAny_rule ⟨rfl,?_⟩));refine wpS_bind (wpS_mono (wpS_forRange (I:=fun x c dN=>Eg aT dN∧c.1=none∧Bp lt a b c.2.1 c.2.2.1 c.2.2.2.1 (m+1+x)) (Q:=fun c dN=>Eg aT dN∧((∃x,c.1=some x∧MG lt a.toList b.toList x.toList)∨(c.1=none∧Bp lt a b c.2.1 c.2.2.1 c.2.2.2.1 (m+1)))) ?_ ?_ ⟨.refl _,rfl,hI⟩) ?_)
 ·rintro x c dN _ hx ⟨eg,hc,hI⟩;refine wpS_mono (Kq C M (eg.1.trans hk) hI) fun r Dz hr=>?_
  obtain⟨EG,hr⟩:=hr;cases r with
  |done c=>exact⟨eg.trans EG,hr.imp id fun z=>⟨z.1,z.2.1,z.2.2.1,z.2.2.2.1,by have:=z.2.2.2.2;lia⟩⟩
  |yield c=>exact⟨eg.trans EG,hr.1,hr.2.1,hr.2.2.1,hr.2.2.2.1,by have:=hr.2.2.2.2;lia⟩
 ·rintro c dN ⟨eg,hc,h1,h2,h3,h4⟩
  lia
 rintro u dN ⟨eg,hu⟩;rcases hu with⟨x,e,hg⟩|⟨e,hI⟩
 ·rw[e];exact wpS_pure ⟨eg,x,rfl,hg⟩
 rw[e];dsimp only;exact wpS_bind (sk fun Dz RE=>wpS_pure ⟨eg.trans RE,rfl,hI⟩)
theorem Ku{st:SortSt}{Q:Array Keyed→SortSt→Prop}(hk:kindOf st=κ)(ha:0<a.size)(hb:0<b.size)(q:∀r aT,Eg st aT→MG lt a.toList b.toList r.toList→Q r aT):wpS (model prog w) A E s (Kl a b) Q st:=by
 rw[GY];refine wpS_bind (wpS_lift (wpAny_rule ⟨rfl,?_⟩));have ey:b[0]?=some b[0]:=ZD;have Z5:b.toList[0]?=some b[0]:=by rw[Array.getElem?_toList];exact ey
 refine wpS_bind (eZ ey ?_);have m0:ML lt a.toList b.toList [] 0 0:=⟨ZD,ZD, .nil,fun x hx=>(by cases hx),ZD⟩
 have m1:ML lt a.toList b.toList (#[b[0]]:Array Keyed).toList 0 1:=by
  have:=m0.b M (k:=1) (by simp;lia) (fun y hy x hx=>by
   rw[FP Z5]at hy;have:y=b[0]:=by simpa using hy
   rw[this];exact M.fst x (List.mem_of_mem_drop hx) _ Z5)
  rw[FP Z5]at this;exact this
 by_cases e:(1==b.size)=true
 ·rw[Zp e];refine wpS_pure (q _ _ (.refl _) ?_);rw[yC];exact m1.dn M (.inr (by have:=beq_iff_eq.mp e;simpa using this))
 rw[Zm e];have e:1≠b.size:=fun z=>e (beq_iff_eq.mpr z)
 by_cases e2:(0+1==a.size)=true
 ·rw[Zp e2];refine wpS_pure (q _ _ (.refl _) ?_);rw[Bo];exact m1.ls M (by have:=beq_iff_eq.mp e2;simpa using this)
 rw[Zm e2];have e2:0+1≠a.size:=fun z=>e2 (beq_iff_eq.mpr z)
 refine wpS_bind (wpS_get ?_);refine wpS_bind (wpS_mono (wpS_forRange (I:=fun x c dN=>Eg st dN∧c.1=none∧Bp lt a b c.2.1 c.2.2.1 c.2.2.2.1 x) (Q:=fun c dN=>Eg st dN∧∃x,c.1=some x∧MG lt a.toList b.toList x.toList) ?_ ?_ ⟨.refl _,rfl,m1,by show 0+1<a.size;lia,by show 1<b.size;lia,by show 0≤0+1;lia⟩) ?_)
 ·rintro x c dN _ hx ⟨eg,hc,hI⟩;refine wpS_mono (Kt C M (eg.1.trans hk) hI) fun r Dz hr=>?_
  obtain⟨EG,hr⟩:=hr;cases r with
  |done c=>exact⟨eg.trans EG,hr⟩
  |yield c=>exact⟨eg.trans EG,hr⟩
 ·rintro c dN ⟨eg,hc,h1,h2,h3,h4⟩
  lia
 ·rintro c dN ⟨eg,x,e,hg⟩;rw[e];exact wpS_pure (q x dN eg hg)
end
theorem wQ{α:Type}{l:List α}{i:Nat}{x:α}:x∈l.take i↔∃t:Nat,t<i∧l[t]?=some x:=by
 have:=sZ (l:=l) (i:=0) (k:=i) (x:=x);simpa using this
theorem yD{α:Type}{l:List α}{i t:Nat}{x:α}:x∈(l.take i).drop t↔∃u:Nat,t≤u∧u<i∧l[u]?=some x:=by
 rw[lH];constructor
 ·rintro⟨u,hu⟩;rw[List.getElem?_take]at hu;split at hu
  ·exact⟨t+u,by lia,by assumption,hu⟩
  ·cases hu
 ·rintro⟨u,h1,h2,h3⟩;exact⟨u-t,by rw[List.getElem?_take,Zp Zx,show t+(u-t)=u by lia];exact h3⟩
theorem yE{α:Type}(l:List α){i t:Nat}(h:t≤i):l.take i=l.take t++(l.take i).drop t:=by
 conv=>lhs;rw[←List.take_append_drop t (l.take i)]
 rw[List.take_take,Nat.min_eq_left h]
section
variable{X:List Keyed}{lt:Keyed→Keyed→Bool}{P Q:List Keyed}
structure MH(lt:Keyed→Keyed→Bool)(P Q O:List Keyed)(i j:Nat):Prop where
 hi:i≤P.length
 hj:j≤Q.length
 qu:Pw lt O
 Z7:∀y∈O,∀x,x∈P.take i∨x∈Q.take j→lt x y=true
 G0:((P.take i++Q.take j)++O).Perm (P++Q)
theorem MH.a{O:List Keyed}{i j t:Nat}(M:MC X lt P Q)(m:MH lt P Q O i j)(ht:t≤i)(h:∀x∈(P.take i).drop t,∀y∈Q.take j,lt y x=true):MH lt P Q ((P.take i).drop t++O) t j:=by
 have sp:=yE P ht;have sd:Pw lt (P.take i):=M.sa.sublist (List.take_sublist _ _);rw[sp]at sd;obtain⟨s1,s2,s3⟩:=List.pairwise_append.mp sd;refine⟨by have:=m.hi;lia,m.hj,List.pairwise_append.mpr ⟨s2,m.qu,fun x hx y hy=>m.Z7 y hy x (.inl (List.mem_of_mem_drop hx))⟩,fun y hy x hx=>?_,?_⟩
 ·rcases List.mem_append.mp hy with hy|hy
  ·rcases hx with hx|hx
   ·exact s3 x hx y hy
   ·exact h y hy x hx
  ·exact m.Z7 y hy x (hx.imp (fun z=>by rw[sp];exact List.mem_append_left _ z) id)
 ·have:=m.G0;rw[sp]at this;refine List.Perm.trans ?_ this;rw[←List.append_assoc];refine List.Perm.append_right O ?_;rw[List.append_assoc,List.append_assoc];exact List.Perm.append_left _ List.perm_append_comm
theorem MH.b{O:List Keyed}{i j t:Nat}(M:MC X lt P Q)(m:MH lt P Q O i j)(ht:t≤j)(h:∀y∈(Q.take j).drop t,∀x∈P.take i,lt x y=true):MH lt P Q ((Q.take j).drop t++O) i t:=by
 have sp:=yE Q ht;have sd:Pw lt (Q.take j):=M.sb.sublist (List.take_sublist _ _);rw[sp]at sd;obtain⟨s1,s2,s3⟩:=List.pairwise_append.mp sd;refine⟨m.hi,by have:=m.hj;lia,List.pairwise_append.mpr ⟨s2,m.qu,fun x hx y hy=>m.Z7 y hy x (.inr (List.mem_of_mem_drop hx))⟩,fun y hy x hx=>?_,?_⟩
 ·rcases List.mem_append.mp hy with hy|hy
  ·rcases hx with hx|hx
   ·exact h y hy x hx
   ·exact s3 x hx y hy
  ·exact m.Z7 y hy x (hx.imp id (fun z=>by rw[sp];exact List.mem_append_left _ z))
 ·have:=m.G0;rw[sp]at this;rw[←List.append_assoc,List.append_assoc (P.take i)];exact this
theorem MH.dn{O:List Keyed}{i j:Nat}(M:MC X lt P Q)(m:MH lt P Q O i j)(h:i=0∨j=0):MG lt P Q (P.take i++Q.take j++O):=by
 refine⟨m.G0,?_⟩;have sa:Pw lt (P.take i):=M.sa.sublist (List.take_sublist _ _);have sb:Pw lt (Q.take j):=M.sb.sublist (List.take_sublist _ _);refine List.pairwise_append.mpr ⟨List.pairwise_append.mpr ⟨sa,sb,fun x hx y hy=>?_⟩,m.qu,fun x hx y hy=>m.Z7 y hy x (List.mem_append.mp hx)⟩;rcases h with h|h
 ·rw[h,List.take_zero]at hx;cases hx
 ·rw[h,List.take_zero]at hy;cases hy
theorem MH.fb{O:List Keyed}{i j:Nat}(M:MC X lt P Q)(m:MH lt P Q O i j)(h:j=1):MG lt P Q (Q.take j++P.take i++O):=by
 have sa:Pw lt (P.take i):=M.sa.sublist (List.take_sublist _ _);have sb:Pw lt (Q.take j):=M.sb.sublist (List.take_sublist _ _);refine⟨(List.Perm.append_right O List.perm_append_comm).trans m.G0,List.pairwise_append.mpr ⟨List.pairwise_append.mpr ⟨sb,sa,fun y hy x hx=>?_⟩,m.qu,fun x hx y hy=>m.Z7 y hy x (List.mem_append.mp hx).symm⟩⟩;obtain⟨t,h1,h2⟩:=wQ.mp hy;have:t=0:=by lia
 subst this;exact M.fst x (List.mem_of_mem_take hx) y h2
end
section
variable{prog:Program}{w:World}{A:Around}{E:Value→Shared→Prop}{s:Shared}{X:List Keyed}{κ:SortKind}{lt:Keyed→Keyed→Bool}(C:EC prog w A s X κ lt){a b:Array Keyed}(M:MC X lt a.toList b.toList)
theorem yF(o:Array Keyed)(i j:Nat):(FN a b o i j).toList=a.toList.take i++b.toList.take j++o.toList.reverse:=by
 unfold FN;simp[Array.toList_extract,List.extract_eq_take_drop]
theorem Br(o:Array Keyed)(i j:Nat):(LX a b o i j).toList=b.toList.take j++a.toList.take i++o.toList.reverse:=by
 unfold LX;simp[Array.toList_extract,List.extract_eq_take_drop]
theorem IE(o:Array Keyed)(c:Array Keyed)(t i:Nat):(o++(c.extract t i).reverse).toList.reverse=(c.toList.take i).drop t++o.toList.reverse:=by
 simp[Array.toList_extract,List.extract_eq_take_drop,List.drop_take]
theorem Bs(o:Array Keyed)(x:Keyed):(o.push x).toList.reverse=[x]++o.toList.reverse:=ZD
theorem FQ{l:List Keyed}{i:Nat}{x:Keyed}(h0:0<i)(h:l[i-1]?=some x):(l.take i).drop (i-1)=[x]:=by
 have:l.take i=l.take (i-1)++[x]:=by
  conv=>lhs;rw[show i=i-1+1 by lia]
  rw[List.take_succ,h];rfl
 rw[this];have hl:=(Y' h).1;rw[List.drop_left' (by simp;lia)]
theorem so{l:List Keyed}(C:EC prog w A s X κ lt)(hs:Pw lt l)(n6:∀x∈l,x∈X){i:Nat}{x z:Keyed}(h:l[i-1]?=some x)(hz:z∈l.take i){y:Keyed}(hy:y∈X)(Aa:lt x y=true):lt z y=true:=by
 obtain⟨t,h1,h2⟩:=wQ.mp hz;by_cases e:t=i-1
 ·subst e;rw[h]at h2;cases h2;exact Aa
 ·exact C.tr _ (n6 _ (Zk h2)) _ (n6 _ (Zk h)) _ hy (hs.at Zx h2 h) Aa
def Bt(lt:Keyed→Keyed→Bool)(a b:Array Keyed)(o:Array Keyed)(i j m:Nat):Prop:=MH lt a.toList b.toList o.toList.reverse i j∧0<i∧1<j∧m+i+j≤a.size+b.size
def Kv(lt:Keyed→Keyed→Bool)(a b:Array Keyed)(m:Nat)(st:SortSt)(r:ForInStep T2)(aT:SortSt):Prop:=Eg st aT∧match r with
 | .done c=>(∃x,c.1=some x∧MG lt a.toList b.toList x.toList)∨(c.1=none∧Bt lt a b c.2.2.2.1 c.2.1 c.2.2.1 m)
 | .yield c=>c.1=none∧Bt lt a b c.2.2.2.1 c.2.1 c.2.2.1 m
include C M
theorem EH{st:SortSt}{o:Array Keyed}{i j mg k l m:Nat}(ml:MH lt a.toList b.toList o.toList.reverse i j)(hi:0<i)(hj:1<j)(hm:m+i+j≤a.size+b.size+1)(h:∀x,a.toList[i-1]?=some x→∀y∈b.toList.take j,lt y x=true):wpS (model prog w) A E s (Pd a b o i j mg k l) (Kv lt a b m st) st:=by
 unfold Pd;have RF:i≤a.size:=by have:=ml.hi;simpa using this
 have ex:a[i-1]?=some a[i-1]:=ZD;have gJ:a.toList[i-1]?=some a[i-1]:=by rw[Array.getElem?_toList];exact ex
 refine wpS_bind (eZ ex ?_);have m2:MH lt a.toList b.toList (o.push a[i-1]).toList.reverse (i-1) j:=by
  have:=ml.a M (t:=i-1) (by lia) (fun x hx y hy=>by
   rw[FQ hi gJ]at hx;have:x=a[i-1]:=by simpa using hx
   rw[this];exact h _ gJ y hy)
  rw[FQ hi gJ]at this;rw[Bs];exact this
 by_cases e:(i-1==0)=true
 ·rw[Zp e];refine wpS_pure ⟨.refl _, .inl ⟨_,rfl,?_⟩⟩;rw[yF];exact m2.dn M (.inl (beq_iff_eq.mp e))
 ·rw[Zm e];have e:i-1≠0:=fun z=>e (beq_iff_eq.mpr z)
  split
  ·exact wpS_pure ⟨.refl _, .inr ⟨rfl,m2,by show 0<i-1;lia,hj,by show m+(i-1)+j≤_;lia⟩⟩
  ·exact wpS_pure ⟨.refl _,rfl,m2,by show 0<i-1;lia,hj,by show m+(i-1)+j≤_;lia⟩
theorem Kx{st:SortSt}{o:Array Keyed}{i j mg k bc m:Nat}(hk:kindOf st=κ)(ml:MH lt a.toList b.toList o.toList.reverse i j)(hi:0<i)(hj:1<j)(hm:m+i+j≤a.size+b.size+1):wpS (model prog w) A E s (RA a b o i j mg k bc) (Kv lt a b m st) st:=by
 unfold RA;have RF:i≤a.size:=by have:=ml.hi;simpa using this
 have RG:j≤b.size:=by have:=ml.hj;simpa using this
 have ex:a[i-1]?=some a[i-1]:=ZD;have gJ:a.toList[i-1]?=some a[i-1]:=by rw[Array.getElem?_toList];exact ex
 have hx:a[i-1]∈a.toList:=Zk gJ;refine wpS_bind (eZ ex ?_);generalize a[i-1]=x at ex gJ hx;have gb:∀t,t<j→b[0+t]?=some (b.getD t (.none, .none)):=fun t ht=>by simp[show t<b.size by lia]
 have rL:∀t,t<j→b.toList[t]?=some (b.getD t (.none, .none)):=fun t ht=>by rw[Array.getElem?_toList];simpa using gb t ht
 refine wpS_bind (qt C (fun t=>b.getD t (.none, .none)) hk (M.ia _ hx) (fun t ht=>⟨gb t ht,M.ib _ (Zk (rL t ht))⟩) (fun t u h1 h2=>M.sb.at h1 (rL t (by lia)) (rL u h2)) (by lia) fun t hl h1 h2=>?_);dsimp only;have Z7:∀y∈(b.toList.take j).drop t,∀z∈a.toList.take i,lt z y=true:=fun y hy z hz=>by
  obtain⟨u,h3,h4,h5⟩:=yD.mp hy;have hb:=h2 u h3 h4;rw[rL u h4]at h5;have h5:=Zt h5;simp only[lb,if_true]at hb;rw[h5]at hb;have RH:=List.mem_of_mem_take (List.mem_of_mem_drop hy);have hb:=C.no (M.ib _ RH) (M.ia _ hx) (fun z=>M.ne _ hx _ RH z.symm) hb;exact so C M.sa M.ia gJ hz (M.ib _ RH) hb
 have low:∀y∈b.toList.take t,lt y x=true:=fun y hy=>by
  obtain⟨u,h3,h4⟩:=wQ.mp hy;have hb:=h1 u h3;rw[rL u Zx]at h4;have h4:=Zt h4;simp only[lb,if_true]at hb;rw[h4]at hb;exact hb
 have m2:MH lt a.toList b.toList (o++(b.extract t j).reverse).toList.reverse i t:=by
  rw[IE];exact ml.b M hl Z7
 by_cases Ko:j-t>0
 ·rw[Zp Ko];by_cases e:(t==1)=true
  ·rw[Zp e];refine wpS_pure ⟨.refl _, .inl ⟨_,rfl,?_⟩⟩;rw[Br];exact m2.fb M (beq_iff_eq.mp e)
  ·rw[Zm e];have e:t≠1:=fun z=>e (beq_iff_eq.mpr z)
   by_cases e2:(t==0)=true
   ·rw[Zp e2];refine wpS_pure ⟨.refl _, .inl ⟨_,rfl,?_⟩⟩;rw[yF];exact m2.dn M (.inr (beq_iff_eq.mp e2))
   ·rw[Zm e2];have e2:t≠0:=fun z=>e2 (beq_iff_eq.mpr z)
    exact EH C M m2 hi Zx (by lia) fun y hy=>by rw[gJ]at hy;cases hy;exact low
 ·rw[Zm Ko];have:t=j:=by lia
  subst this;exact EH C M ml hi hj hm fun y hy=>by rw[gJ]at hy;cases hy;exact low
theorem EI{st:SortSt}{o:Array Keyed}{i j mg k bc m:Nat}(hk:kindOf st=κ)(ml:MH lt a.toList b.toList o.toList.reverse i j)(hi:0<i)(hj:1<j)(hm:m+i+j≤a.size+b.size+2)(h:∀y,b.toList[j-1]?=some y→∀x∈a.toList.take i,lt x y=true):wpS (model prog w) A E s (Pe a b o i j mg k bc) (Kv lt a b m st) st:=by
 unfold Pe;have RG:j≤b.size:=by have:=ml.hj;simpa using this
 have ex:b[j-1]?=some b[j-1]:=ZD;have gJ:b.toList[j-1]?=some b[j-1]:=by rw[Array.getElem?_toList];exact ex
 refine wpS_bind (eZ ex ?_);have m2:MH lt a.toList b.toList (o.push b[j-1]).toList.reverse i (j-1):=by
  have:=ml.b M (t:=j-1) (by lia) (fun x hx y hy=>by
   rw[FQ Zx gJ]at hx;have:x=b[j-1]:=by simpa using hx
   rw[this];exact h _ gJ y hy)
  rw[FQ Zx gJ]at this;rw[Bs];exact this
 by_cases e:(j-1==1)=true
 ·rw[Zp e];refine wpS_pure ⟨.refl _, .inl ⟨_,rfl,?_⟩⟩;rw[Br];exact m2.fb M (beq_iff_eq.mp e)
 ·rw[Zm e];have e:j-1≠1:=fun z=>e (beq_iff_eq.mpr z)
  exact Kx C M hk m2 hi Zx (by lia)
theorem EJ{st:SortSt}{o:Array Keyed}{i j mg ac bc m:Nat}(hk:kindOf st=κ)(h:Bt lt a b o i j m):wpS (model prog w) A E s (FO a b o i j mg ac bc) (Kv lt a b (m+2) st) st:=by
 obtain⟨ml,hi,hj,hm⟩:=h;have RF:i≤a.size:=by have:=ml.hi;simpa using this
 have RG:j≤b.size:=by have:=ml.hj;simpa using this
 unfold FO;refine wpS_bind (sk fun ZF eg=>?_);have ID:kindOf ZF=κ:=eg.1.trans hk;have fin:∀{m:Nat}{p:StateT SortSt Sem (ForInStep T2)},wpS (model prog w) A E s p (Kv lt a b m ZF) ZF→wpS (model prog w) A E s p (Kv lt a b m st) ZF:=fun h=>wpS_mono h fun r aT z=>⟨eg.trans z.1,z.2⟩
 refine fin ?_;have ex:b[j-1]?=some b[j-1]:=ZD;have gJ:b.toList[j-1]?=some b[j-1]:=by rw[Array.getElem?_toList];exact ex
 have hx:b[j-1]∈b.toList:=Zk gJ;refine wpS_bind (eZ ex ?_);generalize b[j-1]=y at ex gJ hx;have gb:∀t,t<i→a[0+t]?=some (a.getD t (.none, .none)):=fun t ht=>by simp[show t<a.size by lia]
 have rL:∀t,t<i→a.toList[t]?=some (a.getD t (.none, .none)):=fun t ht=>by rw[Array.getElem?_toList];simpa using gb t ht
 refine wpS_bind (qt C (fun t=>a.getD t (.none, .none)) ID (M.ib _ hx) (fun t ht=>⟨gb t ht,M.ia _ (Zk (rL t ht))⟩) (fun t u h1 h2=>M.sa.at h1 (rL t (by lia)) (rL u h2)) (by lia) fun t hl h1 h2=>?_);dsimp only;have Z7:∀x∈(a.toList.take i).drop t,∀z∈b.toList.take j,lt z x=true:=fun x ui z hz=>by
  obtain⟨u,h3,h4,h5⟩:=yD.mp ui;have hb:=h2 u h3 h4;rw[rL u h4]at h5;have h5:=Zt h5;simp only[lb,Bool.false_eq_true,if_false,Bool.not_eq_false']at hb;rw[h5]at hb;exact so C M.sb M.ib gJ hz (M.ia _ (List.mem_of_mem_take (List.mem_of_mem_drop ui))) hb
 have low:∀x∈a.toList.take t,lt x y=true:=fun x ui=>by
  obtain⟨u,h3,h4⟩:=wQ.mp ui;have hb:=h1 u h3;rw[rL u Zx]at h4;have h4:=Zt h4;have zN:=List.mem_of_mem_take ui;simp only[lb,Bool.false_eq_true,if_false,Bool.not_eq_true']at hb;rw[h4]at hb;exact C.no (M.ib _ hx) (M.ia _ zN) (fun z=>M.ne _ zN _ hx z.symm) hb
 have m2:MH lt a.toList b.toList (o++(a.extract t i).reverse).toList.reverse t j:=by
  rw[IE];exact ml.a M hl Z7
 by_cases wO:i-t>0
 ·rw[Zp wO];by_cases e:(t==0)=true
  ·rw[Zp e];refine wpS_pure ⟨.refl _, .inl ⟨_,rfl,?_⟩⟩;rw[yF];exact m2.dn M (.inl (beq_iff_eq.mp e))
  ·rw[Zm e];have e:t≠0:=fun z=>e (beq_iff_eq.mpr z)
   exact EI C M ID m2 Zx hj Zx fun z hz=>by rw[gJ]at hz;cases hz;exact low
 ·rw[Zm wO];have:t=i:=by lia
  subst this;exact EI C M ID ml hi hj Zx fun z hz=>by rw[gJ]at hz;cases hz;exact low
theorem Kz{st:SortSt}{c:T2}{m:Nat}(hk:kindOf st=κ)(h:Bt lt a b c.2.2.2.1 c.2.1 c.2.2.1 m):wpS (model prog w) A E s (RB a b c) (Kv lt a b (m+2) st) st:=by
 unfold RB;split
 ·exact EJ C M hk h
 ·exact EJ C M hk h
theorem KA{st:SortSt}{c:T1}{mg m:Nat}(hk:kindOf st=κ)(h:Bt lt a b c.2.2.2.1 c.2.1 c.2.2.1 m):wpS (model prog w) A E s (Rz a b mg c) (fun r aT=>aT=st∧match r with
  | .done c=>(∃x,c.1=some x∧MG lt a.toList b.toList x.toList)∨(c.1=none∧Bt lt a b c.2.2.2.1 c.2.1 c.2.2.1 (m+1))
  | .yield c=>c.1=none∧Bt lt a b c.2.2.2.1 c.2.1 c.2.2.1 (m+1)) st:=by
 obtain⟨r,i,j,o,ac,bc⟩:=c;obtain⟨ml,hi,hj,hm⟩:=h;dsimp only at ml hi hj hm;have RF:i≤a.size:=by have:=ml.hi;simpa using this
 have RG:j≤b.size:=by have:=ml.hj;simpa using this
 unfold Rz;dsimp only;have ex:a[i-1]?=some a[i-1]:=ZD;have gJ:a.toList[i-1]?=some a[i-1]:=by rw[Array.getElem?_toList];exact ex
 have ey:b[j-1]?=some b[j-1]:=ZD;have Z5:b.toList[j-1]?=some b[j-1]:=by rw[Array.getElem?_toList];exact ey
 have hx:a[i-1]∈a.toList:=Zk gJ;have hy:b[j-1]∈b.toList:=Zk Z5;refine wpS_bind (eZ ey (wpS_bind (eZ ex ?_)));generalize a[i-1]=x at ex gJ hx;generalize b[j-1]=y at ey Z5 hy;refine wpS_bind (C.ask hk (M.ib _ hy) (M.ia _ hx) ?_);dsimp only;cases e:lt y x with
 |true=>
  rw[if_pos rfl];refine wpS_bind (eZ ex ?_);have m2:MH lt a.toList b.toList (o.push x).toList.reverse (i-1) j:=by
   have:=ml.a M (t:=i-1) (by lia) (fun x' ui z hz=>by
    rw[FQ hi gJ]at ui;have:x'=x:=by simpa using ui
    rw[this];exact so C M.sb M.ib Z5 hz (M.ia _ hx) e)
   rw[FQ hi gJ]at this;rw[Bs];exact this
  by_cases e2:(i-1==0)=true
  ·rw[Zp e2];refine wpS_pure ⟨rfl, .inl ⟨_,rfl,?_⟩⟩;rw[yF];exact m2.dn M (.inl (beq_iff_eq.mp e2))
  ·rw[Zm e2];have e2:i-1≠0:=fun z=>e2 (beq_iff_eq.mpr z)
   split
   ·exact wpS_pure ⟨rfl, .inr ⟨rfl,m2,by show 0<i-1;lia,hj,by show m+1+(i-1)+j≤_;lia⟩⟩
   ·exact wpS_pure ⟨rfl,rfl,m2,by show 0<i-1;lia,hj,by show m+1+(i-1)+j≤_;lia⟩
 |false=>
  rw[if_neg Zu];refine wpS_bind (eZ ey ?_);have e:=C.no (M.ib _ hy) (M.ia _ hx) (fun z=>M.ne _ hx _ hy z.symm) e;have m2:MH lt a.toList b.toList (o.push y).toList.reverse i (j-1):=by
   have:=ml.b M (t:=j-1) (by lia) (fun y' NM z hz=>by
    rw[FQ Zx Z5]at NM;have:y'=y:=by simpa using NM
    rw[this];exact so C M.sa M.ia gJ hz (M.ib _ hy) e)
   rw[FQ Zx Z5]at this;rw[Bs];exact this
  by_cases e2:(j-1==1)=true
  ·rw[Zp e2];refine wpS_pure ⟨rfl, .inl ⟨_,rfl,?_⟩⟩;rw[Br];exact m2.fb M (beq_iff_eq.mp e2)
  ·rw[Zm e2];have e2:j-1≠1:=fun z=>e2 (beq_iff_eq.mpr z)
   split
   ·exact wpS_pure ⟨rfl, .inr ⟨rfl,m2,hi,by show 1<j-1;lia,by show m+1+i+(j-1)≤_;lia⟩⟩
   ·exact wpS_pure ⟨rfl,rfl,m2,hi,by show 1<j-1;lia,by show m+1+i+(j-1)≤_;lia⟩
theorem KC{st:SortSt}{c:T3}{m:Nat}(hk:kindOf st=κ)(h:Bt lt a b c.2.2.2.1 c.2.1 c.2.2.1 m):wpS (model prog w) A E s (RD a b c) (fun r aT=>Eg st aT∧match r with
  | .done c=>∃x,c.1=some x∧MG lt a.toList b.toList x.toList
  | .yield c=>c.1=none∧Bt lt a b c.2.2.2.1 c.2.1 c.2.2.1 (m+1)) st:=by
 unfold RD;refine wpS_bind (wpS_mono (wpS_forRange (I:=fun x c aT=>aT=st∧c.1=none∧Bt lt a b c.2.2.2.1 c.2.1 c.2.2.1 (m+x)) (Q:=fun c aT=>aT=st∧((∃x,c.1=some x∧MG lt a.toList b.toList x.toList)∨(c.1=none∧Bt lt a b c.2.2.2.1 c.2.1 c.2.2.1 (m+1)))) ?_ ?_ ⟨rfl,rfl,h⟩) ?_)
 ·rintro x c aT _ hx ⟨rfl,hc,hI⟩;refine wpS_mono (KA C M hk hI) fun r aT hr=>?_
  obtain⟨rfl,hr⟩:=hr;cases r with
  |done c=>exact⟨rfl,hr.imp id fun z=>⟨z.1,z.2.1,z.2.2.1,z.2.2.2.1,by have:=z.2.2.2.2;lia⟩⟩
  |yield c=>exact⟨rfl,hr.1,hr.2⟩
 ·rintro c aT ⟨rfl,hc,h1,h2,h3,h4⟩
  lia
 rintro t aT ⟨rfl,ht⟩;rcases ht with⟨x,e,hg⟩|⟨e,hI⟩
 ·rw[e];exact wpS_pure ⟨.refl _,x,rfl,hg⟩
 rw[e];dsimp only;refine wpS_bind (wpS_lift (wpAny_rule ⟨rfl,?_⟩));refine wpS_bind (wpS_mono (wpS_forRange (I:=fun x c dN=>Eg aT dN∧c.1=none∧Bt lt a b c.2.2.2.1 c.2.1 c.2.2.1 (m+1+x)) (Q:=fun c dN=>Eg aT dN∧((∃x,c.1=some x∧MG lt a.toList b.toList x.toList)∨(c.1=none∧Bt lt a b c.2.2.2.1 c.2.1 c.2.2.1 (m+1)))) ?_ ?_ ⟨.refl _,rfl,hI⟩) ?_)
 ·rintro x c dN _ hx ⟨eg,hc,hI⟩;refine wpS_mono (Kz C M (eg.1.trans hk) hI) fun r Dz hr=>?_
  obtain⟨EG,hr⟩:=hr;cases r with
  |done c=>exact⟨eg.trans EG,hr.imp id fun z=>⟨z.1,z.2.1,z.2.2.1,z.2.2.2.1,by have:=z.2.2.2.2;lia⟩⟩
  |yield c=>exact⟨eg.trans EG,hr.1,hr.2.1,hr.2.2.1,hr.2.2.2.1,by have:=hr.2.2.2.2;lia⟩
 ·rintro c dN ⟨eg,hc,h1,h2,h3,h4⟩
  lia
 rintro u dN ⟨eg,hu⟩;rcases hu with⟨x,e,hg⟩|⟨e,hI⟩
 ·rw[e];exact wpS_pure ⟨eg,x,rfl,hg⟩
 rw[e];dsimp only;exact wpS_bind (sk fun Dz RE=>wpS_pure ⟨eg.trans RE,rfl,hI⟩)
theorem KD{st:SortSt}{Q:Array Keyed→SortSt→Prop}(hk:kindOf st=κ)(ha:0<a.size)(hb:0<b.size)(q:∀r aT,Eg st aT→MG lt a.toList b.toList r.toList→Q r aT):wpS (model prog w) A E s (Km a b) Q st:=by
 rw[GZ];refine wpS_bind (wpS_lift (wpAny_rule ⟨rfl,?_⟩));have ex:a[a.size-1]?=some a[a.size-1]:=ZD;have gJ:a.toList[a.size-1]?=some a[a.size-1]:=by rw[Array.getElem?_toList];exact ex
 refine wpS_bind (eZ ex ?_);have m0:MH lt a.toList b.toList [] a.size b.size:=⟨ZD,ZD, .nil,fun x hx=>(by cases hx),by rw[List.take_of_length_le Zu,List.take_of_length_le Zu];simp⟩
 have m1:MH lt a.toList b.toList (#[a[a.size-1]]:Array Keyed).toList.reverse (a.size-1) b.size:=by
  have:=m0.a M (t:=a.size-1) (by lia) (fun x hx y hy=>by
   rw[FQ ha gJ]at hx;have:x=a[a.size-1]:=by simpa using hx
   rw[this];exact M.lst y (List.mem_of_mem_take hy) _ (by simpa using gJ))
  rw[FQ ha gJ]at this;simpa using this
 by_cases e:(a.size-1==0)=true
 ·rw[Zp e];refine wpS_pure (q _ _ (.refl _) ?_);rw[yF];exact m1.dn M (.inl (beq_iff_eq.mp e))
 rw[Zm e];have e:a.size-1≠0:=fun z=>e (beq_iff_eq.mpr z)
 by_cases e2:(b.size==1)=true
 ·rw[Zp e2];refine wpS_pure (q _ _ (.refl _) ?_);rw[Br];exact m1.fb M (beq_iff_eq.mp e2)
 rw[Zm e2];have e2:b.size≠1:=fun z=>e2 (beq_iff_eq.mpr z)
 refine wpS_bind (wpS_get ?_);refine wpS_bind (wpS_mono (wpS_forRange (I:=fun x c dN=>Eg st dN∧c.1=none∧Bt lt a b c.2.2.2.1 c.2.1 c.2.2.1 x) (Q:=fun c dN=>Eg st dN∧∃x,c.1=some x∧MG lt a.toList b.toList x.toList) ?_ ?_ ⟨.refl _,rfl,m1,by show 0<a.size-1;lia,by show 1<b.size;lia,by show 0+(a.size-1)+b.size≤_;lia⟩) ?_)
 ·rintro x c dN _ hx ⟨eg,hc,hI⟩;refine wpS_mono (KC C M (eg.1.trans hk) hI) fun r Dz hr=>?_
  obtain⟨EG,hr⟩:=hr;cases r with
  |done c=>exact⟨eg.trans EG,hr⟩
  |yield c=>exact⟨eg.trans EG,hr⟩
 ·rintro c dN ⟨eg,hc,h1,h2,h3,h4⟩
  lia
 ·rintro c dN ⟨eg,x,e,hg⟩;rw[e];exact wpS_pure (q x dN eg hg)
end
def Pf(lo i n:Nat):StateT SortSt Sem AscSt:=forIn [i:n] ((none,i):AscSt) fun _ c=>do
 let z←ltAt' (lo+c.2) (lo+c.2-1)
 match z with
 |some v=>if v=true then pure (.done (none,c.2))else pure (.yield (none,c.2+1))
 | _=>pure (.done (some none,c.2))
def Pg(lo i n:Nat):StateT SortSt Sem (Option Nat):=do
 reverseSlice' lo (lo+i)
 let t←Pf lo i n
 match t.1 with
 |some r=>pure r
 |none=>pure (some t.2)
def RJ(lo i n:Nat):StateT SortSt Sem DescSt:=forIn [i:n] ((none,i,0):DescSt) fun _ c=>do
 let z←ltAt' (lo+c.2.1) (lo+c.2.1-1)
 match z with
 |some v=>
  if v=true then
   if c.2.2>0 then do
    reverseSlice' (lo+c.2.1-(c.2.2+1)) (lo+c.2.1)
    pure (.yield (none,c.2.1+1,0))
   else pure (.yield (none,c.2.1+1,0))
  else do
   let z←ltAt' (lo+c.2.1-1) (lo+c.2.1)
   match z with
   |some v=>if v=true then pure (.done (none,c.2.1,c.2.2))else pure (.yield (none,c.2.1+1,c.2.2+1))
   | _=>pure (.done (some none,c.2.1,c.2.2))
 | _=>pure (.done (some none,c.2.1,c.2.2))
def RK(lo i n:Nat):StateT SortSt Sem (Option Nat):=do
 liftM (rule "list.sort.descending-run")
 let t←RJ lo (i+1) n
 match t.1 with
 |some r=>pure r
 |none=>
  if t.2.2>0 then do
   reverseSlice' (lo+t.2.1-(t.2.2+1)) (lo+t.2.1)
   Pg lo t.2.1 n
  else Pg lo t.2.1 n
theorem KG(lo n:Nat):countRun' lo n=(do
 let t←Pf lo 1 n
 match t.1 with
 |some r=>pure r
 |none=>
  if (t.2==n)=true then pure (some t.2)
  else if t.2>1 then do
   let z←ltAt' lo (lo+t.2-1)
   match z with
   |some v=>if v=true then pure (some t.2)else do
     reverseSlice' lo (lo+t.2)
     RK lo t.2 n
   | _=>pure none
  else RK lo t.2 n):=by kernel_rfl
def Ud(lo k:Nat):StateT SortSt Sem (Option Bool×Nat×Nat):=forIn [0:k] ((none,0,k):Option Bool×Nat×Nat) fun _ c=>
 if c.2.1≥c.2.2 then pure (.done (none,c.2.1,c.2.2))
 else do
  let z←ltAt' (lo+k) (lo+(c.2.1+c.2.2)/2)
  match z with
  |some v=>if v=true then pure (.yield (none,c.2.1,(c.2.1+c.2.2)/2))else pure (.yield (none,(c.2.1+c.2.2)/2+1,c.2.2))
  | _=>pure (.done (some false,c.2.1,c.2.2))
theorem KH(lo n ok:Nat):binarySort' lo n ok=(do
 let t←forIn [max ok 1:n] ((none,()):Option Bool×Unit) fun k _=>do
  let t←Ud lo k
  match t.1 with
  |some r=>pure (.done (some r,()))
  |none=>do
   moveDown' (lo+k) (lo+t.2.1)
   pure (.yield (none,()))
 match t.1 with
 |some r=>pure r
 |none=>pure true):=by kernel_rfl
def Dg(j:Nat)(m:Array Keyed)(st:SortSt):SortSt:=setArr st (m.toList.zipIdx.foldl (fun c q=>c.setIfInBounds (j+q.2) q.1) (arrOf st))
theorem KI(i:Nat):mergeAt' i=(do
 let g←get
 let (some (p,m,v),some (q,n,_)):=((pendingOf g)[i]?,(pendingOf g)[i+1]?)|unsupported "internal:list.sort.pending"
 set (setPending g (((pendingOf g).setIfInBounds i (p,m+n,v)).eraseIdxIfInBounds (i+1)))
 let some k←yB false (←elem' (arrOf g) q) (arrOf g) p m 0|return false
 if m-k==0 then return true
 let some n←yB true (←elem' (arrOf g) (p+k+(m-k)-1)) (arrOf g) q n (n-1)|return false
 if n==0 then return true
 let r←if m-k≤n then Kl ((arrOf g).extract (p+k) q) ((arrOf g).extract q (q+n))else Km ((arrOf g).extract (p+k) q) ((arrOf g).extract q (q+n))
 modify fun st=>Dg (p+k) r st
 return (failedOf (←get)).isNone):=by kernel_rfl
def RL(n w:Nat):StateT SortSt Sem (Option Unit×Unit):=forIn [0:n] ((none,()):Option Unit×Unit) fun _ _=>do
 let g←get
 match (if (pendingOf g).size>1 then(pendingOf g)[(pendingOf g).size-2]? else none)with
 |some (_,_,v)=>
  if v≤w then pure (.done (none,()))
  else do
   let z←mergeAt' ((pendingOf g).size-2)
   if (!z)=true then pure (.done (some (),()))else pure (.yield (none,()))
 | _=>pure (.done (none,()))
def Ue(w:Nat)(st:SortSt):SortSt:=setPending st ((pendingOf st).modify ((pendingOf st).size-1) fun(p,l,_)=>(p,l,w))
def Ph(lo n:Nat)(st:SortSt):SortSt:=setPending st ((pendingOf st).push (lo,n,0))
def Pj(N lo n:Nat):StateT SortSt Sem (ForInStep (Option Unit×Nat)):=do
 let g←get
 match (pendingOf g).back? with
 |some (p,l,_)=>do
  let t←RL N (power' N (2*p+l) (2*p+l+l+n) N)
  match t.1 with
  |some r=>pure (.done (some r,lo))
  |none=>do
   modify (Ue (power' N (2*p+l) (2*p+l+l+n) N))
   modify (Ph lo n)
   pure (.yield (none,lo+n))
 | _=>do
  modify (Ph lo n)
  pure (.yield (none,lo+n))
def RM(N:Nat):StateT SortSt Sem (Option Unit×Unit):=forIn [0:N] ((none,()):Option Unit×Unit) fun _ _=>do
 let g←get
 if (pendingOf g).size≤1 then pure (.done (none,()))
 else do
  let z←mergeAt' (if (if (pendingOf g).size-2>0 then((pendingOf g)[(pendingOf g).size-2-1]?).map (·.2.1)else none).any (·<((pendingOf g)[(pendingOf g).size-2+1]?.elim 0 (·.2.1)))then(pendingOf g).size-2-1 else(pendingOf g).size-2)
  if (!z)=true then pure (.done (some (),()))else pure (.yield (none,()))
theorem G6:sortRuns'=(do
 let g←get
 let t←forIn [0:(arrOf g).size] ((none,0):Option Unit×Nat) fun _ c=>
  if c.2≥(arrOf g).size then pure (.done (none,c.2))
  else do
   let z←countRun' c.2 ((arrOf g).size-c.2)
   match z with
   |some n=>
    if n<minRun' (arrOf g).size (arrOf g).size 0 then do
     liftM (rule "list.sort.binary-insertion")
     let z←binarySort' c.2 (min ((arrOf g).size-c.2) (minRun' (arrOf g).size (arrOf g).size 0)) n
     if (!z)=true then pure (.done (some (),c.2))else Pj (arrOf g).size c.2 (min ((arrOf g).size-c.2) (minRun' (arrOf g).size (arrOf g).size 0))
    else Pj (arrOf g).size c.2 n
   | _=>pure (.done (some (),c.2))
 match t.1 with
 |some r=>pure r
 |none=>do
  let u←RM (arrOf g).size
  match u.1 with
  |some r=>pure r
  |none=>pure ()):=by kernel_rfl
abbrev gg(xs:Array Keyed)(k:Nat):Keyed:=xs.getD k (.none, .none)
theorem oQ(xs:Array Keyed)(k:Nat):gg xs k=(xs[k]?).getD (.none, .none):=by unfold gg;rw[Array.getD_eq_getD_getElem?]
theorem kY{xs:Array Keyed}{k:Nat}(h:k<xs.size):xs[k]?=some (gg xs k):=by simp[h]
def Sw(lt:Keyed→Keyed→Bool)(xs:Array Keyed)(a b:Nat):Prop:=∀i j,a≤i→i<j→j<b→lt (gg xs i) (gg xs j)=true
def Dw(lt:Keyed→Keyed→Bool)(xs:Array Keyed)(a b:Nat):Prop:=∀i j,a≤i→i<j→j<b→lt (gg xs j) (gg xs i)=true
theorem Sw.congr{lt:Keyed→Keyed→Bool}{xs ys:Array Keyed}{a b:Nat}(h:Sw lt xs a b)(e:∀t,a≤t→t<b→gg ys t=gg xs t):Sw lt ys a b:=fun i j h1 h2 h3=>by rw[e i h1 Zx,e j Zx h3];exact h i j h1 h2 h3
structure SB(X:List Keyed)(κ:SortKind)(st:SortSt):Prop where
 pm:(arrOf st).toList.Perm X
 kd:kindOf st=κ
 fl:failedOf st=none
theorem G7{σ:Type}{M:Model}{A:Around}{E:Value→Shared→Prop}{s:Shared}{x:σ}{Q:PUnit→σ→Prop}{st:σ}(h:Q ⟨⟩ x):wpS M A E s (set x:StateT σ Sem PUnit) Q st:=by
 unfold wpS;rw[StateT.run_set];exact wpAny_pure ⟨rfl,h⟩
section
variable{prog:Program}{w:World}{A:Around}{E:Value→Shared→Prop}{s:Shared}{X:List Keyed}{κ:SortKind}{lt:Keyed→Keyed→Bool}
theorem SB.size{st:SortSt}(b:SB X κ st):(arrOf st).size=X.length:=by have:=b.pm.length_eq;simpa using this
theorem SB.mem{st:SortSt}(b:SB X κ st){k:Nat}(h:k<X.length):gg (arrOf st) k∈X:=by
 have:=kY (xs:=arrOf st) (k:=k) (by rw[b.size];exact h);rw[←Array.getElem?_toList]at this;exact b.pm.mem_iff.mp (Zk this)
theorem SB.inj{st:SortSt}(C:EC prog w A s X κ lt)(b:SB X κ st){i j:Nat}(hi:i<X.length)(hj:j<X.length)(h:i≠j):gg (arrOf st) i≠gg (arrOf st) j:=fun e=>by
 have h1:=kY (xs:=arrOf st) (k:=i) (by rw[b.size];exact hi);have h2:=kY (xs:=arrOf st) (k:=j) (by rw[b.size];exact hj);rw[←Array.getElem?_toList]at h1 h2;have nd:(arrOf st).toList.Nodup:=b.pm.nodup_iff.mpr C.nd;exact h ((List.getElem?_inj (Y' h1).1 nd).mp (by rw[h1,h2,e]))
theorem SB.set{st:SortSt}{xs:Array Keyed}(b:SB X κ st)(h:xs.Perm (arrOf st)):SB X κ (setArr st xs):=⟨(Array.perm_iff_toList_perm.mp h).trans b.pm,b.kd,b.fl⟩
variable(C:EC prog w A s X κ lt)
include C
theorem yG{st:SortSt}{i j:Nat}{Q:Option Bool→SortSt→Prop}(b:SB X κ st)(hi:i<X.length)(hj:j<X.length)(h:Q (some (lt (gg (arrOf st) i) (gg (arrOf st) j))) st):wpS (model prog w) A E s (ltAt' i j) Q st:=by
 rw[ltAt'_eq];refine wpS_bind (wpS_get ?_);show wpS _ _ _ _ (do let x←elem' (arrOf st) i;let y←elem' (arrOf st) j;lt' x y) Q st;exact wpS_bind (eZ (kY (by rw[b.size];exact hi)) (wpS_bind (eZ (kY (by rw[b.size];exact hj)) (C.ask b.kd (b.mem hi) (b.mem hj) h))))
theorem SB.no{st:SortSt}(b:SB X κ st){i j:Nat}(hi:i<X.length)(hj:j<X.length)(h:i≠j)(e:lt (gg (arrOf st) i) (gg (arrOf st) j)=false):lt (gg (arrOf st) j) (gg (arrOf st) i)=true:=C.no (b.mem hi) (b.mem hj) (b.inj C hi hj h) e
theorem Sw.next{st:SortSt}(b:SB X κ st){lo n:Nat}(h1:1≤n)(hn:lo+n<X.length)(h:Sw lt (arrOf st) lo (lo+n))(e:lt (gg (arrOf st) (lo+n)) (gg (arrOf st) (lo+n-1))=false):Sw lt (arrOf st) lo (lo+(n+1)):=fun i j hi uh hj=>by
 have hl:=b.no C (i:=lo+n) (j:=lo+n-1) hn Zx (by lia) e;by_cases ej:j=lo+n
 ·subst ej;by_cases ei:i=lo+n-1
  ·subst ei;exact hl
  ·exact C.tr _ (b.mem Zx) _ (b.mem Zx) _ (b.mem hn) (h i (lo+n-1) hi Zx (by lia)) hl
 ·exact h i j hi uh Zx
theorem EK{st:SortSt}{lo i n:Nat}{Q:AscSt→SortSt→Prop}(b:SB X κ st)(hn:lo+n≤X.length)(h1:1≤i)(n6:i≤n)(hs:Sw lt (arrOf st) lo (lo+i))(q:∀m,i≤m→m≤n→Sw lt (arrOf st) lo (lo+m)→(m=n∨lt (gg (arrOf st) (lo+m)) (gg (arrOf st) (lo+m-1))=true)→Q (none,m) st):wpS (model prog w) A E s (Pf lo i n) Q st:=by
 unfold Pf;refine wpS_forRange (I:=fun x c aT=>aT=st∧c=(none,x)∧Sw lt (arrOf st) lo (lo+x)) ?_ ?_ ⟨rfl,rfl,hs⟩
 ·rintro x c aT lg hx ⟨rfl,rfl,mS⟩;refine wpS_bind (yG C b (by show lo+x<_;lia) (by show lo+x-1<_;lia) ?_);dsimp only;cases e:lt (gg (arrOf aT) (lo+x)) (gg (arrOf aT) (lo+x-1))with
  |true=>
   rw[if_pos rfl];exact wpS_pure (q x lg Zx mS (.inr e))
  |false=>
   rw[if_neg Zu];exact wpS_pure ⟨rfl,rfl,Sw.next C b (by lia) (by lia) mS e⟩
 ·rintro c aT ⟨rfl,rfl,mS⟩;rw[show max i n=n by lia]at mS⊢;exact q n n6 (Nat.le_refl _) mS (.inl rfl)
omit C in
theorem Ab{xs:Array Keyed}{i j:Nat}(hj:j≤xs.size)(k:Nat):gg (mirror xs i j ((j-i)/2)) k=if i≤k∧k<j then gg xs (i+j-1-k)else gg xs k:=by
 rw[oQ,getElem?_mirror_all hj];split<;>rw[oQ]
theorem KJ{st:SortSt}{lo i n:Nat}{Q:Option Nat→SortSt→Prop}(b:SB X κ st)(hn:lo+n≤X.length)(h1:1≤i)(n6:i≤n)(hs:Dw lt (arrOf st) lo (lo+i))(q:∀m aT,SB X κ aT→pendingOf aT=pendingOf st→(∀t,t<lo→gg (arrOf aT) t=gg (arrOf st) t)→1≤m→m≤n→Sw lt (arrOf aT) lo (lo+m)→Q (some m) aT):wpS (model prog w) A E s (Pg lo i n) Q st:=by
 unfold Pg;refine wpS_bind ?_;rw[reverseSlice'_eq];refine wpS_modify ?_;have hsz:lo+i≤(arrOf st).size:=by rw[b.size];lia
 have b':SB X κ (setArr st (mirror (arrOf st) lo (lo+i) ((lo+i-lo)/2))):=b.set (mirror_perm _ _ _ _);refine wpS_bind (EK C b' hn h1 n6 (fun x y hx Aa hy=>?_) fun m a1 a2 a3 _=>wpS_pure (q m _ b' rfl (fun t ht=>?_) (by lia) a2 a3))
 ·show lt (gg (mirror (arrOf st) lo (lo+i) ((lo+i-lo)/2)) x) (gg (mirror (arrOf st) lo (lo+i) ((lo+i-lo)/2)) y)=true;rw[Ab hsz,Ab hsz,Zp Zx,Zp Zx];exact hs _ _ (by lia) (by lia) (by lia)
 ·show gg (mirror (arrOf st) lo (lo+i) ((lo+i-lo)/2)) t=_;rw[Ab hsz,Zm Zx]
theorem KL{st:SortSt}{lo i n:Nat}{Q:DescSt→SortSt→Prop}(b:SB X κ st)(hn:lo+n≤X.length)(h1:1≤i)(n6:i≤n)(hs:Dw lt (arrOf st) lo (lo+i))(q:∀m,i≤m→m≤n→Dw lt (arrOf st) lo (lo+m)→Q (none,m,0) st):wpS (model prog w) A E s (RJ lo i n) Q st:=by
 unfold RJ;refine wpS_forRange (I:=fun x c aT=>aT=st∧c=(none,x,0)∧Dw lt (arrOf st) lo (lo+x)) ?_ ?_ ⟨rfl,rfl,hs⟩
 ·rintro x c aT lg hx ⟨rfl,rfl,mS⟩;refine wpS_bind (yG C b (by show lo+x<_;lia) (by show lo+x-1<_;lia) ?_);dsimp only;cases e:lt (gg (arrOf aT) (lo+x)) (gg (arrOf aT) (lo+x-1))with
  |true=>
   rw[if_pos rfl,Zm Zx];refine wpS_pure ⟨rfl,rfl,fun y z hy Wn hz=>?_⟩;by_cases ez:z=lo+x
   ·subst ez;by_cases ey:y=lo+x-1
    ·subst ey;exact e
    ·exact C.tr _ (b.mem Zx) _ (b.mem Zx) _ (b.mem Zx) e (mS y (lo+x-1) hy Zx (by lia))
   ·exact mS y z hy Wn Zx
  |false=>
   rw[if_neg Zu];have e':=b.no C (i:=lo+x) (j:=lo+x-1) (by lia) (by lia) (by lia) e;refine wpS_bind (yG C b (by lia) (by lia) ?_);rw[e'];dsimp only;rw[if_pos rfl];exact wpS_pure (q x lg Zx mS)
 ·rintro c aT ⟨rfl,rfl,mS⟩;rw[show max i n=n by lia]at mS⊢;exact q n n6 (Nat.le_refl _) mS
theorem NN{st:SortSt}{lo n:Nat}{Q:Option Nat→SortSt→Prop}(b:SB X κ st)(hn:lo+n≤X.length)(h1:1≤n)(q:∀m aT,SB X κ aT→pendingOf aT=pendingOf st→(∀t,t<lo→gg (arrOf aT) t=gg (arrOf st) t)→1≤m→m≤n→Sw lt (arrOf aT) lo (lo+m)→Q (some m) aT):wpS (model prog w) A E s (countRun' lo n) Q st:=by
 rw[KG];refine wpS_bind (EK C b hn (Nat.le_refl _) h1 (fun i j a b c=>by lia) fun m a1 a2 a3 a4=>?_);dsimp only;by_cases e:(m==n)=true
 ·rw[Zp e];exact wpS_pure (q m st b rfl (fun _ _=>rfl) a1 a2 a3)
 ·rw[Zm e];have e:m≠n:=fun z=>e (beq_iff_eq.mpr z)
  by_cases e2:m>1
  ·rw[Zp e2];refine wpS_bind (yG C b (by lia) (by lia) ?_);rw[a3 lo (lo+m-1) (Nat.le_refl _) (by lia) (by lia)];dsimp only;rw[if_pos rfl];exact wpS_pure (q m st b rfl (fun _ _=>rfl) a1 a2 a3)
  ·rw[Zm e2];have:m=1:=by lia
   subst this;unfold RK;refine wpS_bind (wpS_lift (wpAny_rule ⟨rfl,?_⟩));refine wpS_bind (KL C b hn Zx (by lia) (fun i j hi uh hj=>?_) fun m c1 c2 c3=>?_)
   ·have hi:i=lo:=by lia
    have hj:j=lo+1:=by lia
    subst hi hj;exact a4.resolve_left e
   ·dsimp only;rw[Zm Zx];exact KJ C b hn Zx c2 c3 q
omit C in
theorem KN{xs:Array Keyed}{src d:Nat}(hs:src<xs.size)(hd:d≤src)(k:Nat):gg (bubble xs src d) k=if k=src-d then gg xs src else if src-d<k∧k≤src then gg xs (k-1)else gg xs k:=by
 rw[oQ,getElem?_bubble hs d hd];by_cases h1:k=src-d
 ·rw[Zp h1,Zp h1,oQ]
 ·rw[Zm h1,Zm h1];by_cases h2:src-d<k∧k≤src
  ·rw[Zp h2,Zp h2,oQ]
  ·rw[Zm h2,Zm h2,oQ]
theorem NO{st:SortSt}{lo n ok:Nat}{Q:Bool→SortSt→Prop}(b:SB X κ st)(hn:lo+n≤X.length)(h1:1≤ok)(bX:ok≤n)(hs:Sw lt (arrOf st) lo (lo+ok))(q:∀aT,SB X κ aT→pendingOf aT=pendingOf st→(∀t,t<lo→gg (arrOf aT) t=gg (arrOf st) t)→Sw lt (arrOf aT) lo (lo+n)→Q true aT):wpS (model prog w) A E s (binarySort' lo n ok) Q st:=by
 rw[KH];refine wpS_bind (wpS_mono (wpS_forRange (I:=fun k c aT=>c=(none,())∧SB X κ aT∧pendingOf aT=pendingOf st∧(∀t,t<lo→gg (arrOf aT) t=gg (arrOf st) t)∧Sw lt (arrOf aT) lo (lo+k)) (Q:=fun c aT=>c=(none,())∧SB X κ aT∧pendingOf aT=pendingOf st∧(∀t,t<lo→gg (arrOf aT) t=gg (arrOf st) t)∧Sw lt (arrOf aT) lo (lo+n)) ?_ ?_ ⟨rfl,b,rfl,fun _ _=>rfl,by rw[show max ok 1=ok by lia];exact hs⟩) ?_)
 ·rintro k c aT ID hk ⟨rfl,b',hp,hf,mS⟩;unfold Ud;refine wpS_bind (wpS_mono (wpS_forRange (I:=fun x c dN=>dN=aT∧∃l r,c=(none,l,r)∧l≤r∧r≤k∧(∀i,i<l→lt (gg (arrOf aT) (lo+i)) (gg (arrOf aT) (lo+k))=true)∧(∀i,r≤i→i<k→lt (gg (arrOf aT) (lo+k)) (gg (arrOf aT) (lo+i))=true)∧r-l+x≤k) (Q:=fun c dN=>dN=aT∧∃l r,c=(none,l,r)∧l≤k∧(∀i,i<l→lt (gg (arrOf aT) (lo+i)) (gg (arrOf aT) (lo+k))=true)∧(∀i,l≤i→i<k→lt (gg (arrOf aT) (lo+k)) (gg (arrOf aT) (lo+i))=true)) ?_ ?_ ⟨rfl,0,k,rfl,by lia,by lia,fun i hi=>by lia,fun i h1 h2=>by lia,by lia⟩) ?_)
  ·rintro x c dN _ hx ⟨rfl,l,r,rfl,a1,a2,a3,a4,a5⟩;dsimp only;by_cases Ug:l≥r
   ·rw[Zp Ug];exact wpS_pure ⟨rfl,l,r,rfl,by lia,a3,fun i h1 h2=>a4 i Zx h2⟩
   ·rw[Zm Ug];refine wpS_bind (yG C b' Zx (by lia) ?_);dsimp only;cases e:lt (gg (arrOf dN) (lo+k)) (gg (arrOf dN) (lo+(l+r)/2))with
    |true=>
     rw[if_pos rfl];refine wpS_pure ⟨rfl,l,(l+r)/2,rfl,by lia,by lia,a3,fun i h1 h2=>?_,by lia⟩;by_cases ei:i=(l+r)/2
     ·subst ei;exact e
     ·exact C.tr _ (b'.mem Zx) _ (b'.mem Zx) _ (b'.mem Zx) e (mS (lo+(l+r)/2) (lo+i) (by lia) (by lia) (by lia))
    |false=>
     rw[if_neg Zu];have e':=b'.no C (i:=lo+k) (j:=lo+(l+r)/2) (by lia) (by lia) (by lia) e;refine wpS_pure ⟨rfl,(l+r)/2+1,r,rfl,by lia,a2,fun i h1=>?_,a4,by lia⟩;by_cases ei:i=(l+r)/2
     ·subst ei;exact e'
     ·exact C.tr _ (b'.mem Zx) _ (b'.mem Zx) _ (b'.mem Zx) (mS (lo+i) (lo+(l+r)/2) (by lia) (by lia) (by lia)) e'
  ·rintro c dN ⟨rfl,l,r,rfl,a1,a2,a3,a4,a5⟩;exact⟨rfl,l,r,rfl,by lia,a3,fun i h1 h2=>a4 i Zx h2⟩
  rintro c dN ⟨rfl,l,r,rfl,a1,a2,a3⟩;dsimp only;refine wpS_bind ?_;rw[moveDown'_eq];refine wpS_modify (wpS_pure ?_);have hsz:lo+k<(arrOf dN).size:=by rw[b'.size];lia
  have gb:=fun t=>KN (xs:=arrOf dN) hsz (d:=lo+k-(lo+l)) (by lia) t
  have es:lo+k-(lo+k-(lo+l))=lo+l:=by lia
  rw[es]at gb;refine⟨rfl,b'.set (bubble_perm _ _ _),hp,fun t ht=>?_,fun i j hi uh hj=>?_⟩
  ·show gg (bubble (arrOf dN) (lo+k) (lo+k-(lo+l))) t=_;rw[gb,Zm Zx,Zm Zx];exact hf t ht
  ·show lt (gg (bubble (arrOf dN) (lo+k) (lo+k-(lo+l))) i) (gg (bubble (arrOf dN) (lo+k) (lo+k-(lo+l))) j)=true;rw[gb,gb];have Wo:∀t,lo≤t→t<lo+l→lt (gg (arrOf dN) t) (gg (arrOf dN) (lo+k))=true:=fun t h1 h2=>by have:=a2 (t-lo) (by lia);rw[show lo+(t-lo)=t by lia]at this;exact this
   have Wq:∀t,lo+l≤t→t<lo+k→lt (gg (arrOf dN) (lo+k)) (gg (arrOf dN) t)=true:=fun t h1 h2=>by have:=a3 (t-lo) (by lia) (by lia);rw[show lo+(t-lo)=t by lia]at this;exact this
   by_cases e1:i=lo+l
   ·rw[Zp e1,Zm Zx,Zp Zx];exact Wq _ (by lia) (by lia)
   ·rw[Zm e1];by_cases e2:lo+l<i∧i≤lo+k
    ·rw[Zp e2,Zm Zx,Zp Zx];exact mS _ _ (by lia) (by lia) (by lia)
    ·rw[Zm e2];by_cases e3:j=lo+l
     ·rw[Zp e3];exact Wo _ (by lia) (by lia)
     ·rw[Zm e3];by_cases e4:lo+l<j∧j≤lo+k
      ·rw[Zp e4];exact mS _ _ (by lia) (by lia) (by lia)
      ·rw[Zm e4];exact mS _ _ (by lia) (by lia) (by lia)
 ·rintro c aT ⟨rfl,b',hp,hf,mS⟩;rw[show max (max ok 1) n=n by lia]at mS;exact⟨rfl,b',hp,hf,mS⟩
 ·rintro c aT ⟨rfl,b',hp,hf,mS⟩;exact wpS_pure (q aT b' hp hf mS)
end
theorem KO(ys:List Keyed)(j:Nat):∀(k:Nat)(xs:Array Keyed),j+k+ys.length≤xs.size→∀t:Nat,((ys.zipIdx k).foldl (fun c q=>c.setIfInBounds (j+q.2) q.1) xs)[t]?=if j+k≤t∧t<j+k+ys.length then ys[t-(j+k)]? else xs[t]?:=by
 induction ys with
 |nil=>
  intro k xs h t;rw[Zm (fun z=>by have z1:=z.1;have z2:=z.2;simp only[List.length_nil]at z2;lia)];rfl
 |cons y ys ih=>
  intro k xs h t;rw[List.zipIdx_cons,List.foldl_cons,ih (k+1) _ (by simp at h⊢;lia) t];simp only[List.length_cons]at h⊢;by_cases h1:j+(k+1)≤t∧t<j+(k+1)+ys.length
  ·rw[Zp h1,Zp Zx,show t-(j+k)=(t-(j+(k+1)))+1 by lia];rfl
  ·rw[Zm h1,Array.getElem?_setIfInBounds];by_cases h2:j+k=t
   ·subst h2;rw[if_pos rfl,Zp Zx,Zp Zx];simp
   ·rw[Zm h2,Zm Zx]
theorem EL(ys:List Keyed)(j:Nat)(xs:Array Keyed)(h:j+ys.length≤xs.size):(ys.zipIdx.foldl (fun c q=>c.setIfInBounds (j+q.2) q.1) xs).toList=xs.toList.take j++ys++xs.toList.drop (j+ys.length):=by
 apply List.ext_getElem?;intro t;rw[Array.getElem?_toList,KO ys j 0 xs Zx t,Nat.add_zero];by_cases h1:t<j
 ·rw[Zm Zx,List.append_assoc,List.getElem?_append_left (by simp;lia),List.getElem?_take,Zp h1,Array.getElem?_toList]
 ·by_cases h2:t<j+ys.length
  ·rw[Zp Zx,List.append_assoc,List.getElem?_append_right (by simp;lia),List.getElem?_append_left (by simp;lia)]
   congr 1
   simp
   lia
  ·rw[Zm Zx,List.getElem?_append_right (by simp;lia),List.getElem?_drop,Array.getElem?_toList]
   congr 1
   simp
   lia
section
variable{prog:Program}{w:World}{A:Around}{E:Value→Shared→Prop}{s:Shared}{X:List Keyed}{κ:SortKind}{lt:Keyed→Keyed→Bool}
theorem Sw.pw{xs:Array Keyed}{p m:Nat}(h:Sw lt xs p (p+m)):Pw lt ((xs.toList.drop p).take m):=by
 refine List.pairwise_iff_getElem.mpr ?_;intro i j hi hj uh;have Dh:j<m∧p+j<xs.size:=by simp at hj;lia
 have e1:((xs.toList.drop p).take m)[i]=gg xs (p+i):=by
  have:((xs.toList.drop p).take m)[i]?=some (gg xs (p+i)):=by rw[List.getElem?_take,Zp Zx,List.getElem?_drop,Array.getElem?_toList];exact kY Zx
  exact(Y' this).2
 have e2:((xs.toList.drop p).take m)[j]=gg xs (p+j):=by
  have:((xs.toList.drop p).take m)[j]?=some (gg xs (p+j)):=by rw[List.getElem?_take,Zp Zx,List.getElem?_drop,Array.getElem?_toList];exact kY Zx
  exact(Y' this).2
 rw[e1,e2];exact h _ _ (by lia) (by lia) (by lia)
theorem EM{xs:Array Keyed}{p m t:Nat}(h:t<m)(hs:p+m≤xs.size):((xs.toList.drop p).take m)[t]?=some (gg xs (p+t)):=by
 rw[List.getElem?_take,Zp h,List.getElem?_drop,Array.getElem?_toList];exact kY Zx
variable(C:EC prog w A s X κ lt)
include C
theorem NP{st:SortSt}{i p m v n u:Nat}{Q:Bool→SortSt→Prop}(b:SB X κ st)(e1:(pendingOf st)[i]?=some (p,m,v))(e2:(pendingOf st)[i+1]?=some (p+m,n,u))(hm:1≤m)(hn:1≤n)(hX:p+m+n≤X.length)(s1:Sw lt (arrOf st) p (p+m))(s2:Sw lt (arrOf st) (p+m) (p+m+n))
  (q:∀aT,SB X κ aT→pendingOf aT=((pendingOf st).setIfInBounds i (p,m+n,v)).eraseIdxIfInBounds (i+1)→(∀t,t<p∨p+m+n≤t→gg (arrOf aT) t=gg (arrOf st) t)→Sw lt (arrOf aT) p (p+m+n)→Q true aT):wpS (model prog w) A E s (mergeAt' i) Q st:=by
 rw[KI];refine wpS_bind (wpS_get ?_);rw[e1,e2];dsimp only;refine wpS_bind (G7 ?_);have hsz:=b.size;refine wpS_bind (eZ (kY (xs:=arrOf st) (k:=p+m) (by lia)) ?_);have mem:∀t,t<X.length→gg (arrOf st) t∈X:=fun t h=>b.mem h
 generalize KP:setPending st (((pendingOf st).setIfInBounds i (p,m+n,v)).eraseIdxIfInBounds (i+1))=ZF;have Ac:arrOf ZF=arrOf st:=by rw[←KP]
 have b1:SB X κ ZF:=by rw[←KP];exact⟨b.pm,b.kd,b.fl⟩
 have LY:pendingOf ZF=((pendingOf st).setIfInBounds i (p,m+n,v)).eraseIdxIfInBounds (i+1):=by rw[←KP]
 refine wpS_bind (qt C (fun t=>gg (arrOf st) (p+t)) b1.kd (mem _ (by lia)) (fun t ht=>⟨kY Zx,mem _ (by lia)⟩) (fun x y h1 h2=>s1 _ _ (by lia) (by lia) (by lia)) (by lia) fun k hk g1 g2=>?_);dsimp only;have NQ:∀t,t<k→lt (gg (arrOf st) (p+t)) (gg (arrOf st) (p+m))=true:=fun t ht=>by
  have:=g1 t ht;simp only[lb,Bool.false_eq_true,if_false,Bool.not_eq_true']at this;exact b.no C (by lia) (by lia) (by lia) this
 have Uh:∀t,k≤t→t<m→lt (gg (arrOf st) (p+m)) (gg (arrOf st) (p+t))=true:=fun t h1 h2=>by
  have:=g2 t h1 h2;simp only[lb,Bool.false_eq_true,if_false,Bool.not_eq_false']at this;exact this
 have tr:=fun{x y z:Nat}(hx:x<X.length)(hy:y<X.length)(hz:z<X.length)=>C.tr _ (mem x hx) _ (mem y hy) _ (mem z hz)
 by_cases ek:(m-k==0)=true
 ·rw[Zp ek];have:k=m:=by have:=beq_iff_eq.mp ek;lia
  subst this;refine wpS_pure (q ZF b1 LY (fun _ _=>by rw[Ac]) ?_);rw[Ac];intro x y hx Aa hy;by_cases h1:y<p+k
  ·exact s1 x y hx Aa h1
  ·by_cases h2:p+k≤x
   ·exact s2 x y h2 Aa hy
   ·have h3:=NQ (x-p) (by lia);rw[show p+(x-p)=x by lia]at h3;by_cases h4:y=p+k
    ·rw[h4];exact h3
    ·exact tr Zx (by lia) (by lia) h3 (s2 (p+k) y Zx (by lia) hy)
 rw[Zm ek];have ek:k<m:=by
  have:m-k≠0:=fun z=>ek (beq_iff_eq.mpr z)
  lia
 refine wpS_bind (eZ (kY (xs:=arrOf st) (k:=p+k+(m-k)-1) (by lia)) ?_);rw[show p+k+(m-k)-1=p+m-1 by lia];refine wpS_bind (qt C (fun t=>gg (arrOf st) (p+m+t)) b1.kd (mem _ (by lia)) (fun t ht=>⟨kY Zx,mem _ (by lia)⟩) (fun x y h1 h2=>s2 _ _ (by lia) (by lia) (by lia)) (by lia) fun l hl g3 g4=>?_);dsimp only;have RN:∀t,t<l→lt (gg (arrOf st) (p+m+t)) (gg (arrOf st) (p+m-1))=true:=fun t ht=>by
  have:=g3 t ht;simp only[lb,if_true]at this;exact this
 have Ui:∀t,l≤t→t<n→lt (gg (arrOf st) (p+m-1)) (gg (arrOf st) (p+m+t))=true:=fun t h1 h2=>by
  have:=g4 t h1 h2;simp only[lb,if_true]at this;exact b.no C (by lia) (by lia) (by lia) this
 have Ko:0<l:=by
  rcases Nat.lt_or_ge 0 l with h|h
  ·exact h
  ·have h1:=Ui 0 (by lia) (by lia);have h2:=Uh (m-1) (by lia) (by lia);rw[show p+(m-1)=p+m-1 by lia]at h2;rw[Nat.add_zero]at h1;have:=C.as _ (mem _ (by lia)) _ (mem _ (by lia)) h1;rw[h2]at this;cases this
 rw[Zm (by simp;lia)];have ex:((arrOf st).extract (p+k) (p+m)).toList=((arrOf st).toList.drop (p+k)).take (m-k):=by
  simp[Array.toList_extract,List.extract_eq_take_drop]
  congr 1
  lia
 have ey:((arrOf st).extract (p+m) (p+m+l)).toList=((arrOf st).toList.drop (p+m)).take l:=by
  simp[Array.toList_extract,List.extract_eq_take_drop]
 have Uj:∀t,t<m-k→(((arrOf st).toList.drop (p+k)).take (m-k))[t]?=some (gg (arrOf st) (p+k+t)):=fun t ht=>EM ht Zx
 have Uk:∀t,t<l→(((arrOf st).toList.drop (p+m)).take l)[t]?=some (gg (arrOf st) (p+m+t)):=fun t ht=>EM ht Zx
 have lx:(((arrOf st).toList.drop (p+k)).take (m-k)).length=m-k:=by simp;lia
 have ly:(((arrOf st).toList.drop (p+m)).take l).length=l:=by simp;lia
 have Pk:∀x∈((arrOf st).toList.drop (p+k)).take (m-k),∃t,t<m-k∧x=gg (arrOf st) (p+k+t):=fun x hx=>by
  obtain⟨t,ht⟩:=List.mem_iff_getElem?.mp hx;have hZ:=(Y' ht).1;rw[lx]at hZ;rw[Uj t hZ]at ht;exact⟨t,hZ,(Zt ht).symm⟩
 have Pl:∀x∈((arrOf st).toList.drop (p+m)).take l,∃t,t<l∧x=gg (arrOf st) (p+m+t):=fun x hx=>by
  obtain⟨t,ht⟩:=List.mem_iff_getElem?.mp hx;have hZ:=(Y' ht).1;rw[ly]at hZ;rw[Uk t hZ]at ht;exact⟨t,hZ,(Zt ht).symm⟩
 have MM:MC X lt ((arrOf st).extract (p+k) (p+m)).toList ((arrOf st).extract (p+m) (p+m+l)).toList:=by
  rw[ex,ey];refine⟨Sw.pw fun x y h1 h2 h3=>s1 x y Zx h2 Zx,Sw.pw fun x y h1 h2 h3=>s2 x y h1 h2 Zx,fun x hx=>?_,fun x hx=>?_,fun x hx y hy=>?_,fun x hx y hy=>?_,fun y hy x hx=>?_⟩
  ·obtain⟨t,ht,rfl⟩:=Pk x hx;exact mem _ (by lia)
  ·obtain⟨t,ht,rfl⟩:=Pl x hx;exact mem _ (by lia)
  ·obtain⟨t,ht,rfl⟩:=Pk x hx;obtain⟨u,hu,rfl⟩:=Pl y hy;exact b.inj C (by lia) (by lia) (by lia)
  ·obtain⟨t,ht,rfl⟩:=Pk x hx;rw[Uk 0 Ko]at hy;cases hy;have:=Uh (k+t) (by lia) (by lia);rw[←Nat.add_assoc]at this;exact this
  ·obtain⟨t,ht,rfl⟩:=Pl y hy;rw[lx,Uj _ (by lia)]at hx;cases hx;rw[show p+k+(m-k-1)=p+m-1 by lia];exact RN t ht
 have fin:∀r dN,Eg ZF dN→MG lt ((arrOf st).extract (p+k) (p+m)).toList ((arrOf st).extract (p+m) (p+m+l)).toList r.toList→wpS (model prog w) A E s (do
   modify fun st=>Dg (p+k) r st
   return (failedOf (←get)).isNone) Q dN:=fun r dN eg mg=>by
  refine wpS_bind (wpS_modify (wpS_bind (wpS_get (wpS_pure ?_))));have LZ:arrOf dN=arrOf st:=eg.2.1.trans Ac;have Pn:failedOf dN=none:=eg.2.2.2.trans b1.fl;rw[ex,ey]at mg;have L0:r.toList.length=m-k+l:=by have:=mg.1.length_eq;rw[List.length_append,lx,ly]at this;exact this
  have el:(arrOf (Dg (p+k) r dN)).toList=(arrOf st).toList.take (p+k)++r.toList++(arrOf st).toList.drop (p+m+l):=by
   show(r.toList.zipIdx.foldl (fun c q=>c.setIfInBounds (p+k+q.2) q.1) (arrOf dN)).toList=_;rw[EL _ _ _ (by rw[LZ,L0];lia),LZ,L0,show p+k+(m-k+l)=p+m+l by lia]
  have Wr:(arrOf st).toList=(arrOf st).toList.take (p+k)++(((arrOf st).toList.drop (p+k)).take (m-k)++((arrOf st).toList.drop (p+m)).take l)++(arrOf st).toList.drop (p+m+l):=by
   have h1:=oP (arrOf st).toList (p+k) (m-k);have h2:=oP (arrOf st).toList (p+m) l;rw[show p+k+(m-k)=p+m by lia]at h1
   conv=>lhs;rw[←List.take_append_drop (p+k) (arrOf st).toList,h1,h2]
   simp only[List.append_assoc]
  have RO:∀t,gg (arrOf (Dg (p+k) r dN)) t=((arrOf (Dg (p+k) r dN)).toList[t]?).getD (.none, .none):=fun t=>by rw[oQ,Array.getElem?_toList]
  have g0:∀t,gg (arrOf st) t=((arrOf st).toList[t]?).getD (.none, .none):=fun t=>by rw[oQ,Array.getElem?_toList]
  have KR:∀t,t<p+k→gg (arrOf (Dg (p+k) r dN)) t=gg (arrOf st) t:=fun t ht=>by
   rw[RO,g0,el,List.append_assoc,List.getElem?_append_left (by simp;lia),List.getElem?_take,Zp ht]
  have EN:∀t,p+m+l≤t→gg (arrOf (Dg (p+k) r dN)) t=gg (arrOf st) t:=fun t ht=>by
   have hZ:((arrOf st).toList.take (p+k)++r.toList).length=p+m+l:=by
    rw[List.length_append,L0,List.length_take,Array.length_toList]
    lia
   rw[RO,g0,el,List.getElem?_append_right Zx,List.getElem?_drop,hZ]
   congr 2
   lia
  have RP:∀t,p+k≤t→t<p+m+l→r.toList[t-(p+k)]?=some (gg (arrOf (Dg (p+k) r dN)) t):=fun t h1 h2=>by
   rw[RO,el,List.append_assoc,List.getElem?_append_right (by simp;lia),List.getElem?_append_left (by rw[List.length_take,Array.length_toList];lia)];rw[show(List.take (p+k) (arrOf st).toList).length=p+k by simp;lia];rw[List.getElem?_eq_getElem Zx];rfl
  have cont:∀t,p+k≤t→t<p+m+l→∃u,p+k≤u∧u<p+m+l∧gg (arrOf (Dg (p+k) r dN)) t=gg (arrOf st) u:=fun t h1 h2=>by
   have:=mg.1.mem_iff.mp (Zk (RP t h1 h2));rcases List.mem_append.mp this with z|z
   ·obtain⟨u,hu,e⟩:=Pk _ z;exact⟨p+k+u,by lia,by lia,e⟩
   ·obtain⟨u,hu,e⟩:=Pl _ z;exact⟨p+m+u,by lia,by lia,e⟩
  have hb:SB X κ (Dg (p+k) r dN):=by
   refine⟨?_,eg.1.trans b1.kd,Pn⟩;rw[el];refine List.Perm.trans ?_ b.pm
   conv=>rhs;rw[Wr]
   exact(List.Perm.append_left _ mg.1).append_right _
  have Mx:(failedOf (Dg (p+k) r dN)).isNone=true:=by rw[show failedOf (Dg (p+k) r dN)=failedOf dN from rfl,Pn];rfl
  rw[Mx];refine q _ hb (eg.2.2.1.trans LY) (fun t ht=>?_) fun x y hx Aa hy=>?_
  ·rcases ht with ht|ht
   ·exact KR t (by lia)
   ·exact EN t (by lia)
  ·
   have A1:∀t u,p≤t→t<p+k→p+k≤u→u<p+m+n→lt (gg (arrOf st) t) (gg (arrOf st) u)=true:=fun t u h1 h2 h3 h4=>by
    by_cases h5:u<p+m
    ·exact s1 t u h1 Zx h5
    ·have h6:=NQ (t-p) (by lia);rw[show p+(t-p)=t by lia]at h6;by_cases h7:u=p+m
     ·rw[h7];exact h6
     ·exact tr Zx (by lia) (by lia) h6 (s2 (p+m) u Zx (by lia) h4)
   have A2:∀t u,p+k≤t→t<p+m+l→p+m+l≤u→u<p+m+n→lt (gg (arrOf st) t) (gg (arrOf st) u)=true:=fun t u h1 h2 h3 h4=>by
    by_cases h5:p+m≤t
    ·exact s2 t u h5 Zx h4
    ·have h6:=Ui (u-(p+m)) (by lia) (by lia);rw[show p+m+(u-(p+m))=u by lia]at h6;by_cases h7:t=p+m-1
     ·rw[h7];exact h6
     ·exact tr Zx (by lia) (by lia) (s1 t (p+m-1) (by lia) (by lia) (by lia)) h6
   by_cases h1:x<p+k
   ·rw[KR x h1];by_cases h2:y<p+k
    ·rw[KR y h2];exact s1 x y hx Aa Zx
    ·by_cases h3:y<p+m+l
     ·obtain⟨u,u1,u2,u3⟩:=cont y Zx h3;rw[u3];exact A1 x u hx h1 u1 Zx
     ·rw[EN y Zx];exact A1 x y hx h1 Zx hy
   ·by_cases h3:x<p+m+l
    ·by_cases h4:y<p+m+l
     ·exact mg.2.at (i:=x-(p+k)) (j:=y-(p+k)) (by lia) (RP x (by lia) h3) (RP y Zx h4)
     ·rw[EN y Zx];obtain⟨u,u1,u2,u3⟩:=cont x (by lia) h3;rw[u3];exact A2 u y u1 u2 Zx hy
    ·rw[EN x (by lia),EN y Zx];exact s2 x y Zx Aa hy
 have sx:0<((arrOf st).extract (p+k) (p+m)).size:=by simp;lia
 have sy:0<((arrOf st).extract (p+m) (p+m+l)).size:=by simp;lia
 by_cases Ul:m-k≤l
 ·rw[Zp Ul];exact wpS_bind (Ku C MM b1.kd sx sy fin)
 ·rw[Zm Ul];exact wpS_bind (KD C MM b1.kd sx sy fin)
end
abbrev Rn:=Nat×Nat×Nat
def Ch:List Rn→Nat→Nat→Prop
 |[],s,e=>s=e
 |q::r,s,e=>q.1=s∧1≤q.2.1∧Ch r (s+q.2.1) e
theorem Ch.all:∀{l:List Rn}{s e:Nat},Ch l s e→s+l.length≤e∧∀q∈l,s≤q.1∧q.1+q.2.1≤e
 |[],s,e,h=>⟨by have:s=e:=h;simp;lia,fun q hq=>by cases hq⟩
 |q::r,s,e,⟨h1,h2,h3⟩=>by
  obtain⟨a1,a2⟩:=Ch.all h3;refine⟨by simp;lia,fun x hx=>?_⟩;rcases List.mem_cons.mp hx with rfl|hx
  ·lia
  ·have:=a2 x hx;lia
theorem Ch.split:∀{l r:List Rn}{s e:Nat},Ch (l++r) s e↔∃m,Ch l s m∧Ch r m e
 |[],r,s,e=>⟨fun h=>⟨s,rfl,h⟩,fun⟨m,h1,h2⟩=>by have:s=m:=h1;rw[this];exact h2⟩
 |q::l,r,s,e=>by
  constructor
  ·rintro⟨h1,h2,h3⟩;obtain⟨m,a1,a2⟩:=Ch.split.mp h3;exact⟨m,⟨h1,h2,a1⟩,a2⟩
  ·rintro⟨m,⟨h1,h2,a1⟩,a2⟩;exact⟨h1,h2,Ch.split.mpr ⟨m,a1,a2⟩⟩
theorem Ch.mod{f:Rn→Rn}(hf:∀q,(f q).1=q.1∧(f q).2.1=q.2.1):∀{l:List Rn}{j s e:Nat},Ch l s e→Ch (l.modify j f) s e
 |[],j,s,e,h=>by simpa using h
 |q::r,0,s,e,h=>by
  rw[List.modify_zero_cons];obtain⟨h1,h2,h3⟩:=h;refine⟨by rw[(hf q).1];exact h1,by rw[(hf q).2];exact h2,by rw[(hf q).2];exact h3⟩
 |q::r,j+1,s,e,h=>by
  rw[List.modify_succ_cons];exact⟨h.1,h.2.1,Ch.mod hf h.2.2⟩
theorem Bu{f:Rn→Rn}:∀{l:List Rn}{j:Nat}{q:Rn},q∈l.modify j f→q∈l∨∃x∈l,q=f x
 |[],j,q,h=>by simp at h
 |x::r,0,q,h=>by
  rw[List.modify_zero_cons]at h;rcases List.mem_cons.mp h with h|h
  ·exact .inr ⟨x,ZD,h⟩
  ·exact .inl (List.mem_cons_of_mem _ h)
 |x::r,j+1,q,h=>by
  rw[List.modify_succ_cons]at h;rcases List.mem_cons.mp h with h|h
  ·exact .inl (by rw[h];simp)
  ·rcases Bu h with h|⟨y,h1,h2⟩
   ·exact .inl (List.mem_cons_of_mem _ h)
   ·exact .inr ⟨y,List.mem_cons_of_mem _ h1,h2⟩
structure RI(X:List Keyed)(κ:SortKind)(lt:Keyed→Keyed→Bool)(st:SortSt)(lo n:Nat):Prop where
 b:SB X κ st
 ch:Ch (pendingOf st).toList 0 lo
 sw:∀q∈(pendingOf st).toList,Sw lt (arrOf st) q.1 (q.1+q.2.1)
 tl:Sw lt (arrOf st) lo (lo+n)
section
variable{prog:Program}{w:World}{A:Around}{E:Value→Shared→Prop}{s:Shared}{X:List Keyed}{κ:SortKind}{lt:Keyed→Keyed→Bool}(C:EC prog w A s X κ lt)
include C
theorem IF{st:SortSt}{lo n i:Nat}{Q:Bool→SortSt→Prop}(r:RI X κ lt st lo n)(LQ:lo≤X.length)(hi:i+1<(pendingOf st).size)(q:∀aT,RI X κ lt aT lo n→(pendingOf aT).size+1=(pendingOf st).size→Q true aT):wpS (model prog w) A E s (mergeAt' i) Q st:=by
 have hl:(pendingOf st).toList.length=(pendingOf st).size:=ZD;obtain⟨P1,x,y,P2,e,el⟩:∃P1 x y P2,(pendingOf st).toList=P1++x::y::P2∧P1.length=i:=by
  refine⟨(pendingOf st).toList.take i,(pendingOf st).toList[i],(pendingOf st).toList[i+1],(pendingOf st).toList.drop (i+2),?_,by simp;lia⟩
  conv=>lhs;rw[←List.take_append_drop i (pendingOf st).toList]
  rw[List.drop_eq_getElem_cons Zx,List.drop_eq_getElem_cons Zx]
 obtain⟨p,m,v⟩:=x;obtain⟨p2,k,u⟩:=y;have ch:=r.ch;rw[e]at ch;obtain⟨mid,c1,c2⟩:=Ch.split.mp ch;obtain⟨d1,d2,d3,d4,d5⟩:=c2;dsimp only at d1 d2 d3 d4 d5;subst d1 d3;have a1:=c1.all;have a2:=d5.all;have i1:(pendingOf st)[i]?=some (p,m,v):=by rw[←Array.getElem?_toList,e,List.getElem?_append_right Zx,el];simp
 have i2:(pendingOf st)[i+1]?=some (p+m,k,u):=by rw[←Array.getElem?_toList,e,List.getElem?_append_right Zx,el];simp
 have w1:=r.sw (p,m,v) (by rw[e];simp);have w2:=r.sw (p+m,k,u) (by rw[e];simp);refine NP C r.b i1 i2 d2 d4 Zx w1 w2 fun aT b' hp KS Q9=>?_
 have ep:(pendingOf aT).toList=P1++(p,m+k,v)::P2:=by
  rw[hp];simp only[Array.toList_eraseIdxIfInBounds,Array.toList_setIfInBounds];rw[e,List.set_append_right _ _ (by lia),el,Nat.sub_self,List.set_cons_zero,List.eraseIdx_append_of_length_le Zx,el,show i+1-i=1 by lia];rfl
 refine q aT ⟨b',?_,fun z hz=>?_,r.tl.congr fun t h1 h2=>KS t (.inr Zx)⟩ ?_
 ·rw[ep];refine Ch.split.mpr ⟨p,c1,rfl,by show 1≤m+k;lia,?_⟩;show Ch P2 (p+(m+k)) lo;rw[←Nat.add_assoc];exact d5
 ·rw[ep]at hz;rcases List.mem_append.mp hz with hz|hz
  ·have h1:=a1.2 z hz;exact(r.sw z (by rw[e];simp[hz])).congr fun t _ h2=>KS t (.inl Zx)
  ·rcases List.mem_cons.mp hz with rfl|hz
   ·show Sw lt (arrOf aT) p (p+(m+k));rw[←Nat.add_assoc];exact Q9
   ·have h1:=a2.2 z hz;exact(r.sw z (by rw[e];simp[hz])).congr fun t h2 _=>KS t (.inr Zx)
 ·have h1:=congrArg List.length ep;have h2:=congrArg List.length e;simp at h1 h2
  lia
theorem KU{st:SortSt}{lo n N w':Nat}{Q:Option Unit×Unit→SortSt→Prop}(r:RI X κ lt st lo n)(LQ:lo≤X.length)(q:∀aT,RI X κ lt aT lo n→Q (none,()) aT):wpS (model prog w) A E s (RL N w') Q st:=by
 unfold RL;refine wpS_forRange (I:=fun _ c aT=>c=(none,())∧RI X κ lt aT lo n) ?_ (fun c aT h=>by rw[h.1];exact q aT h.2) ⟨rfl,r⟩;rintro x c aT _ _ ⟨rfl,r'⟩;refine wpS_bind (wpS_get ?_);by_cases hs:(pendingOf aT).size>1
 ·rw[Zp hs];have e:(pendingOf aT)[(pendingOf aT).size-2]?=some (pendingOf aT)[(pendingOf aT).size-2]:=ZD;rw[e];generalize (pendingOf aT)[(pendingOf aT).size-2]=z;obtain⟨z1,z2,z3⟩:=z;dsimp only;split
  ·exact wpS_pure (q aT r')
  ·refine wpS_bind (IF C r' LQ Zx fun dN r2 _=>?_);rw[if_neg Zu];exact wpS_pure ⟨rfl,r2⟩
 ·rw[Zm hs];exact wpS_pure (q aT r')
theorem EO{st:SortSt}{lo n N:Nat}{Q:ForInStep (Option Unit×Nat)→SortSt→Prop}(r:RI X κ lt st lo n)(h1:1≤n)(LQ:lo+n≤X.length)(q:∀aT,RI X κ lt aT (lo+n) 0→Q (.yield (none,lo+n)) aT):wpS (model prog w) A E s (Pj N lo n) Q st:=by
 have push:∀aT,RI X κ lt aT lo n→RI X κ lt (Ph lo n aT) (lo+n) 0:=fun aT r'=>by
  have ep:(pendingOf (Ph lo n aT)).toList=(pendingOf aT).toList++[(lo,n,0)]:=by
   show((pendingOf aT).push (lo,n,0)).toList=_;simp
  refine⟨⟨r'.b.pm,r'.b.kd,r'.b.fl⟩,?_,fun z hz=>?_,fun i j a b c=>by lia⟩
  ·rw[ep];exact Ch.split.mpr ⟨lo,r'.ch,rfl,h1,rfl⟩
  ·rw[ep]at hz;rcases List.mem_append.mp hz with hz|hz
   ·exact r'.sw z hz
   ·have:z=(lo,n,0):=by simpa using hz
    subst this;exact r'.tl
 unfold Pj;refine wpS_bind (wpS_get ?_);cases e:(pendingOf st).back? with
 |none=>exact wpS_bind (wpS_modify (wpS_pure (q _ (push _ r))))
 |some z=>
  obtain⟨z1,z2,z3⟩:=z;dsimp only;refine wpS_bind (KU C r Zx fun dN r2=>?_);dsimp only;refine wpS_bind (wpS_modify (wpS_bind (wpS_modify (wpS_pure (q _ (push _ ?_))))));have ep:(pendingOf (Ue (power' N (2*z1+z2) (2*z1+z2+z2+n) N) dN)).toList=(pendingOf dN).toList.modify ((pendingOf dN).size-1) fun(p,l,_)=>(p,l,power' N (2*z1+z2) (2*z1+z2+z2+n) N):=by
   show((pendingOf dN).modify _ _).toList=_;simp
  refine⟨⟨r2.b.pm,r2.b.kd,r2.b.fl⟩,?_,fun z hz=>?_,r2.tl⟩
  ·rw[ep];refine Ch.mod ?_ r2.ch;exact fun _=>⟨rfl,rfl⟩
  ·rw[ep]at hz;rcases Bu hz with hz|⟨x,h1,h2⟩
   ·exact r2.sw z hz
   ·rw[h2];exact r2.sw x h1
theorem KW{st:SortSt}{N:Nat}{Q:Option Unit×Unit→SortSt→Prop}(hN:N=X.length)(h0:0<N)(r:RI X κ lt st N 0)(q:∀aT,SB X κ aT→Sw lt (arrOf aT) 0 N→Q (none,()) aT):wpS (model prog w) A E s (RM N) Q st:=by
 have one:∀aT,RI X κ lt aT N 0→(pendingOf aT).size≤1→Q (none,()) aT:=fun aT r' hs=>by
  have ch:=r'.ch;have sw:=r'.sw;cases e:(pendingOf aT).toList with
  |nil=>rw[e]at ch;have:0=N:=ch;lia
  |cons x l=>
   have hl:l=[]:=by
    have:=congrArg List.length e;simp at this;exact List.length_eq_zero_iff.mp Zx
   subst hl;rw[e]at ch sw;obtain⟨c1,c2,c3⟩:=ch;have c3:0+x.2.1=N:=c3;have:=sw x (ZD);rw[c1,c3]at this;exact q aT r'.b this
 unfold RM;refine wpS_forRange (I:=fun x c aT=>c=(none,())∧RI X κ lt aT N 0∧((pendingOf aT).size+x≤N∨(pendingOf aT).size≤1)) ?_ ?_ ⟨rfl,r, .inl ?_⟩
 ·rintro x c aT _ hx ⟨rfl,r',hs⟩;refine wpS_bind (wpS_get ?_);by_cases h1:(pendingOf aT).size≤1
  ·rw[Zp h1];exact wpS_pure (one aT r' h1)
  ·rw[Zm h1];refine wpS_bind (IF C r' Zx ?_ fun dN r2 JJ=>?_)
   ·have key:∀c:Bool,(if c=true then(pendingOf aT).size-2-1 else(pendingOf aT).size-2)+1<(pendingOf aT).size:=fun c=>by cases c<;>simp<;>lia
    exact key _
   ·rw[if_neg Zu];exact wpS_pure ⟨rfl,r2,by lia⟩
 ·rintro c aT ⟨rfl,r',hs⟩;exact one aT r' (by rcases hs with hs|hs<;>lia)
 ·have:=r.ch.all.1;simp at this
  lia
theorem KY{st:SortSt}{Q:Unit→SortSt→Prop}(h0:0<X.length)(b:SB X κ st)(hp:pendingOf st=#[])(q:∀aT,SB X κ aT→Sw lt (arrOf aT) 0 X.length→Q () aT):wpS (model prog w) A E s sortRuns' Q st:=by
 rw[G6];refine wpS_bind (wpS_get ?_);rw[b.size];refine wpS_bind (wpS_mono (wpS_forRange (I:=fun x c aT=>∃lo,c=(none,lo)∧RI X κ lt aT lo 0∧lo≤X.length∧x≤lo) (Q:=fun c aT=>c.1=none∧RI X κ lt aT X.length 0) ?_ ?_ ⟨0,rfl,⟨b,by rw[hp];rfl,(fun q hq=>by rw[hp]at hq;cases hq),fun i j a b c=>by lia⟩,by lia,by lia⟩) ?_)
 ·rintro x c aT _ hx ⟨lo,rfl,r,LQ,RQ⟩;dsimp only;by_cases h1:lo≥X.length
  ·rw[Zp h1];have:lo=X.length:=by lia
   subst this;exact wpS_pure ⟨rfl,r⟩
  ·rw[Zm h1];refine wpS_bind (NN C r.b Zx (by lia) fun m dN b2 B4 Pn m1 m2 Po=>?_);dsimp only;have r2:RI X κ lt dN lo m:=⟨b2,by rw[B4];exact r.ch,fun z hz=>by
    rw[B4]at hz;have:=r.ch.all.2 z hz;exact(r.sw z hz).congr fun t _ h2=>Pn t (by lia),Po⟩
   by_cases h2:m<minRun' X.length X.length 0
   ·rw[Zp h2];refine wpS_bind (wpS_lift (wpAny_rule ⟨rfl,?_⟩));refine wpS_bind (NO C b2 (n:=min (X.length-lo) (minRun' X.length X.length 0)) (by lia) m1 Zx Po fun Dz b3 Um Ws Wt=>?_);rw[if_neg Zu];refine EO C ⟨b3,by rw[Um,B4];exact r.ch,fun z hz=>?_,Wt⟩ Zx (by lia) fun O4 r4=>⟨_,rfl,r4,by lia,by lia⟩
    rw[Um]at hz;have:=r2.ch.all.2 z hz;exact(r2.sw z hz).congr fun t _ h2=>Ws t (by lia)
   ·rw[Zm h2];exact EO C r2 m1 Zx fun O4 r4=>⟨_,rfl,r4,by lia,by lia⟩
 ·rintro c aT ⟨lo,rfl,r,LQ,RQ⟩;have:lo=X.length:=by lia
  subst this;exact⟨rfl,r⟩
 ·rintro⟨c1,c2⟩ aT ⟨e,r⟩;dsimp only at e⊢;subst e;exact wpS_bind (KW C rfl h0 r fun dN b2 Po=>wpS_pure (q dN b2 Po))
end
open Classical in
noncomputable def ER(X:List Keyed)(x:Keyed):Nat:=if h:∃i:Nat,X[i]?=some x then Classical.choose h else 0
theorem nq{X:List Keyed}{x:Keyed}(h:x∈X):X[ER X x]?=some x:=by
 have h':∃i:Nat,X[i]?=some x:=List.mem_iff_getElem?.mp h;unfold ER;rw[dif_pos h'];exact Classical.choose_spec h'
theorem KZ{X:List Keyed}(nd:X.Nodup){i:Nat}{x:Keyed}(h:X[i]?=some x):ER X x=i:=by
 have:=nq (Zk h);exact(List.getElem?_inj (Y' this).1 nd).mp (this.trans h.symm)
theorem nr{X:List Keyed}{x:Keyed}(h:x∈X):ER X x<X.length:=(Y' (nq h)).1
section
variable{prog:Program}{w:World}{A:Around}{E:Value→Shared→Prop}{s:Shared}{X:List Keyed}{κ:SortKind}{lt:Nat→Nat→Bool}
theorem G8{st:SortSt}{Q:Unit→SortSt→Prop}(nd:X.Nodup)(h0:0<X.length)(L:ZG X.length lt)(ha:(arrOf st).toList=X)(hk:kindOf st=κ)(hp:pendingOf st=#[])(hf:failedOf st=none)
  (hc:∀i j x y,X[i]?=some x→X[j]?=some y→∀C:Bool→Shared→Prop,C (lt i j) s→wpAny (model prog w) A (keyLt' κ x.1 y.1) C (fun _ _=>False) s)
  (q:∀p aT,xS X.length p→Sd lt p X.length→(arrOf aT).toList=p.toList.map (fun i=>X.getD i (.none, .none))→failedOf aT=none→Q () aT):wpS (model prog w) A E s sortRuns' Q st:=by
 have C:EC prog w A s X κ fun x y=>lt (ER X x) (ER X y):=by
  refine⟨fun x hx y hy=>hc _ _ x y (nq hx) (nq hy),fun x hx y hy z hz=>L.tr _ _ _ (nr hx) (nr hy) (nr hz),fun x hx y hy=>L.as _ _ (nr hx) (nr hy),fun x hx y hy hn=>L.Rv _ _ (nr hx) (nr hy) fun e=>hn ?_,nd⟩;have h1:=nq hx;rw[e,nq hy]at h1;exact(Zt h1).symm
 refine KY C h0 ⟨by rw[ha],hk,hf⟩ hp fun aT b sw=>?_
 have mem:∀x∈(arrOf aT).toList,x∈X:=fun x hx=>b.pm.mem_iff.mp hx
 refine q ((arrOf aT).map (ER X)) aT ?_ (fun i j uh hj=>?_) ?_ b.fl
 ·unfold xS;rw[Array.toList_map];have h1:=b.pm.map (ER X);have h2:X.map (ER X)=List.range X.length:=by
   apply List.ext_getElem
   ·simp
   ·intro i h1 h2;simp only[List.getElem_map,List.getElem_range];exact KZ nd (by simp at h1;simp[h1])
  rw[h2]at h1;exact h1
 ·have:=sw i j (Nat.zero_le _) uh hj;have g:∀k,k<X.length→gd ((arrOf aT).map (ER X)) k=ER X (gg (arrOf aT) k):=fun k hk=>by
   have En:k<(arrOf aT).size:=by rw[b.size];exact hk
   rw[EB,oQ];simp[En]
  rw[g i Zx,g j hj];exact this
 ·rw[Array.toList_map,List.map_map]
  conv=>lhs;rw[←List.map_id (arrOf aT).toList]
  apply List.map_congr_left;intro x hx;have:=nq (mem x hx);simp[List.getD_eq_getElem?_getD,this]
theorem Bv{ks vs:List Value}(hl:ks.length=vs.length)(h0:0<vs.length)(L:ZG vs.length lt)(nd:ks.Nodup)
  (hc:∀i j,i<vs.length→j<vs.length→∀C:Bool→Shared→Prop,C (lt i j) s→wpAny (model prog w) A (keyLt' κ (ks.getD i .none) (ks.getD j .none)) C (fun _ _=>False) s):
  wpAny (model prog w) A ((sortRuns').run (SortSt.mk' κ (ks.toArray.zip vs.toArray) #[] 7 none)) (fun r s'=>∃p:Array Nat,s'=s∧xS vs.length p∧Sd lt p vs.length∧arrOf r.2=p.map (kas_item (ks.toArray.zip vs.toArray))∧failedOf r.2=none) E s:=by
 have hz:(ks.zip vs).length=vs.length:=by rw[List.length_zip];lia
 have ea:(ks.toArray.zip vs.toArray).toList=ks.zip vs:=ZD;have Wu:(ks.zip vs).Nodup:=by
  refine List.pairwise_iff_getElem.mpr fun i j hi hj uh e=>?_
  rw[List.getElem_zip,List.getElem_zip]at e;have:=(List.getElem_inj nd).mp (Prod.mk.inj e).1
  lia
 have run:=G8 (prog:=prog) (w:=w) (A:=A) (E:=E) (s:=s) (X:=ks.zip vs) (κ:=κ) (lt:=lt) (st:=SortSt.mk' κ (ks.toArray.zip vs.toArray) #[] 7 none) (Q:=fun _ aT=>∃p:Array Nat,xS vs.length p∧Sd lt p vs.length∧arrOf aT=p.map (kas_item (ks.toArray.zip vs.toArray))∧failedOf aT=none) Wu Zx (by rw[hz];exact L) ea rfl rfl rfl (fun i j x y hx hy C h=>?_) fun p aT h1 h2 h3 h4=>⟨p,by rw[←hz];exact h1,by rw[←hz];exact h2,?_,h4⟩
 ·unfold wpS at run;refine wpAny_mono run (fun r s' ⟨h1,p,h2⟩=>⟨p,h1,h2⟩) fun _ _ e=>e
 ·obtain⟨x1,x2⟩:=x;obtain⟨y1,y2⟩:=y;have hi:=(Y' hx).1;have hj:=(Y' hy).1;rw[hz]at hi hj;obtain⟨e1,_⟩:=List.getElem?_zip_eq_some.mp hx;obtain⟨e2,_⟩:=List.getElem?_zip_eq_some.mp hy;have:=hc i j hi hj C h;simpa[List.getD_eq_getElem?_getD,e1,e2]using this
 ·apply Array.toList_inj.mp;rw[h3,Array.toList_map];apply List.map_congr_left;intro i _;unfold kas_item;rw[Array.getD_eq_getD_getElem?,←Array.getElem?_toList,ea,List.getD_eq_getElem?_getD]
end
def Kp(a:Addr)(h h':Heap):Prop:=∀b o,b≠a→h.get? b=some o→h'.get? b=some o
section
variable{prog:Program}{w:World}{A:Around}{E:Value→Shared→Prop}{s:Shared}
theorem Cs{a:Addr}{vs:List Value}{n:Nat}{κ:SortKind}{lt:Nat→Nat→Bool}{P:PySem.Fin→Shared→Prop}(ho:s.heap.get? a=some (seqObj "list" vs.toArray n))(h2:2≤vs.length)(ES:vs.length<10000)(NR:vs.Nodup)(L:ZG vs.length lt)
  (hk:∀s',Kp a s.heap s'.heap→∀Q':SortKind→Shared→Prop,Q' κ s'→wpAny (model prog w) A (keyKind' vs.toArray) Q' (fun _ _=>False) s')
  (hc:∀i j,i<vs.length→j<vs.length→∀s',Kp a s.heap s'.heap→∀C:Bool→Shared→Prop,C (lt i j) s'→wpAny (model prog w) A (keyLt' κ (vs.getD i .none) (vs.getD j .none)) C (fun _ _=>False) s')
  (h:∀p h' c,xS vs.length p→Sd lt p vs.length→Kp a s.heap h'→h'.get? a=some (seqObj "list" (List.toArray (p.toList.map fun i=>vs.getD i Value.none)) c)→P (.done (.ret .none)) {s with heap:=h'}):
  wpAny (model prog w) A (Builtin.«list.sort» ⟨[.ref a],[]⟩) P E s:=by
 have s1:=Heap.SameBut.update s.heap a (Obj.mapSeq fun _=>(#[]:Array Value));obtain⟨e1,G9⟩:∃e1,(s.heap.update a (Obj.mapSeq fun _=>(#[]:Array Value))).get? a=some (seqObj "list" #[] e1):=⟨_,get?_update_seq ho fun _=>#[]⟩
 rw[list_sort_plain];refine wpAny_bind (listItems_at ho rfl (wpAny_bind (listUpdate_at ho rfl ?_ (by rw[List.size_toArray,sizeLine_eq];omega) (Nat.zero_le _))));refine wpAny_bind (seqEpoch_at G9 rfl (wpAny_bind (wpAny_newTuple (wpAny_bind (wpAny_newList (wpAny_holding ?_) (Nat.zero_le _))) (by show vs.length≤_;rw[sizeLine_eq];omega))));generalize hh:(((s.heap.update a (Obj.mapSeq fun _=>(#[]:Array Value))).push {cls:= .type "tuple",data:= .seq vs.toArray 0}).push {cls:= .type "list",data:= .seq #[] 0})=h3;have k3:Kp a s.heap h3:=fun b o hb e=>by
  rw[←hh];exact Zn (Zn ((s1.2 b hb).trans e))
 have K0:h3.get? a=some (seqObj "list" #[] e1):=by
  rw[←hh];exact Zn (Zn G9)
 show wpAny (model prog w) A _ P E {s with heap:=h3};dsimp only;have xP:¬vs.toArray.size<2:=by rw[List.size_toArray];omega
 rw[Zm xP,Zm xP];refine wpAny_bind (wpAny_mono (hk {s with heap:=h3} k3 (fun Pp s'=>Pp=κ∧s'={s with heap:=h3}) ⟨rfl,rfl⟩) ?_ fun _ _ x=>x.elim);rintro _ _ ⟨rfl,rfl⟩;refine wpAny_bind (wpAny_mono (Bv (lt:=lt) rfl (Zz) L NR fun i j hi hj C hC=>hc i j hi hj {s with heap:=h3} k3 C hC) ?_ fun _ _ e=>e);rintro⟨⟨⟩,aT⟩ s' ⟨p,rfl,hp,hs,RR,hf⟩;dsimp only;rw[kat_snds rfl RR];have hsz:(List.toArray (p.toList.map fun i=>vs.getD i Value.none)).size=vs.length:=by rw[List.size_toArray,List.length_map,Array.length_toList,hp.size]
 have s2:=Heap.SameBut.update h3 a (Obj.mapSeq fun _=>List.toArray (p.toList.map fun i=>vs.getD i Value.none));obtain⟨c2,ug⟩:∃c2,(h3.update a (Obj.mapSeq fun _=>List.toArray (p.toList.map fun i=>vs.getD i Value.none))).get? a=some (seqObj "list" (List.toArray (p.toList.map fun i=>vs.getD i Value.none)) c2):=⟨_,get?_update_seq K0 fun _=>List.toArray (p.toList.map fun i=>vs.getD i Value.none)⟩
 refine wpAny_bind (seqEpoch_at (s:={s with heap:=h3}) K0 rfl (wpAny_bind (listUpdate_at (s:={s with heap:=h3}) K0 rfl ?_ (Nat.zero_le _) (Nat.le_trans (Nat.le_of_eq hsz) (by rw[sizeLine_eq];omega)))));rw[hf];simp only[bne_self_eq_false,Bool.false_eq_true,if_false];exact wpAny_pure (h p _ c2 hp hs (fun b o hb e=>(s2.2 b hb).trans (k3 b o hb e)) ug)
theorem yH{a:Addr}{vs:List Value}{n:Nat}{P:PySem.Fin→Shared→Prop}(ho:s.heap.get? a=some (seqObj "list" vs.toArray n))(h2:vs.length<2)
  (h:∀h' c,Kp a s.heap h'→h'.get? a=some (seqObj "list" vs.toArray c)→P (.done (.ret .none)) {s with heap:=h'}):
  wpAny (model prog w) A (Builtin.«list.sort» ⟨[.ref a],[]⟩) P E s:=by
 have s1:=Heap.SameBut.update s.heap a (Obj.mapSeq fun _=>(#[]:Array Value));obtain⟨e1,G9⟩:∃e1,(s.heap.update a (Obj.mapSeq fun _=>(#[]:Array Value))).get? a=some (seqObj "list" #[] e1):=⟨_,get?_update_seq ho fun _=>#[]⟩
 rw[list_sort_plain];refine wpAny_bind (listItems_at ho rfl (wpAny_bind (listUpdate_at ho rfl ?_ (by rw[List.size_toArray,sizeLine_eq];omega) (Nat.zero_le _))));refine wpAny_bind (seqEpoch_at G9 rfl (wpAny_bind (wpAny_newTuple (wpAny_bind (wpAny_newList (wpAny_holding ?_) (Nat.zero_le _))) (by show vs.length≤_;rw[sizeLine_eq];omega))));generalize hh:(((s.heap.update a (Obj.mapSeq fun _=>(#[]:Array Value))).push {cls:= .type "tuple",data:= .seq vs.toArray 0}).push {cls:= .type "list",data:= .seq #[] 0})=h3;have k3:Kp a s.heap h3:=fun b o hb e=>by
  rw[←hh];exact Zn (Zn ((s1.2 b hb).trans e))
 have K0:h3.get? a=some (seqObj "list" #[] e1):=by
  rw[←hh];exact Zn (Zn G9)
 show wpAny (model prog w) A _ P E {s with heap:=h3};dsimp only;have xP:vs.toArray.size<2:=by rw[List.size_toArray];omega
 rw[Zp xP,Zp xP];refine wpAny_bind (wpAny_pure (wpAny_bind (wpAny_pure ?_)));dsimp only;have RS:(arrOf (SortSt.mk' general' (vs.toArray.zip vs.toArray) #[] 7 none)).map (·.2)=vs.toArray:=by
  show(vs.toArray.zip vs.toArray).map (·.2)=vs.toArray;apply Array.toList_inj.mp;rw[Array.toList_map,Array.toList_zip];exact List.map_snd_zip (Nat.le_refl _)
 have s2:=Heap.SameBut.update h3 a (Obj.mapSeq fun _=>vs.toArray);obtain⟨c2,ug⟩:∃c2,(h3.update a (Obj.mapSeq fun _=>vs.toArray)).get? a=some (seqObj "list" vs.toArray c2):=⟨_,get?_update_seq K0 fun _=>vs.toArray⟩
 rw[RS];refine wpAny_bind (seqEpoch_at (s:={s with heap:=h3}) K0 rfl (wpAny_bind (listUpdate_at (s:={s with heap:=h3}) K0 rfl ?_ (Nat.zero_le _) (by rw[List.size_toArray,sizeLine_eq];omega))));simp only[bne_self_eq_false,Bool.false_eq_true,if_false];exact wpAny_pure (h _ c2 (fun b o hb e=>(s2.2 b hb).trans (k3 b o hb e)) ug)
theorem Ad{l:Addr}{vs:List Value}{κ:SortKind}{lt:Nat→Nat→Bool}{Q:Value→Shared→Prop}(hl:s.heap.IsList l vs.toArray)(ES:vs.length<10000)(NR:vs.Nodup)(L:ZG vs.length lt)
  (hk:2≤vs.length→∀s',(∀b o,s.heap.get? b=some o→s'.heap.get? b=some o)→∀Q':SortKind→Shared→Prop,Q' κ s'→wpAny (model prog w) A.in1.in1 (keyKind' vs.toArray) Q' (fun _ _=>False) s')
  (hc:∀i j,i<vs.length→j<vs.length→∀s',(∀b o,s.heap.get? b=some o→s'.heap.get? b=some o)→∀C:Bool→Shared→Prop,C (lt i j) s'→wpAny (model prog w) A.in1.in1 (keyLt' κ (vs.getD i .none) (vs.getD j .none)) C (fun _ _=>False) s')
  (h:∀p h' D c,xS vs.length p→Sd lt p vs.length→(∀b o,s.heap.get? b=some o→h'.get? b=some o)→s.heap.objs.size≤D→h'.get? D=some (seqObj "list" (List.toArray (p.toList.map fun i=>vs.getD i Value.none)) c)→Q (.ref D) {s with heap:=h'}):
  wpAny (model prog w) A (call (.builtin "sorted") [.ref l]) Q E s:=by
 refine Calls.call_function_entry kind_sorted plain_sorted entry_sorted (args_sorted1 _) ?_;unfold Builtin.«sorted»;refine wpAny_bind (m:=checkCount "sorted" 1 1 _) (wpAny_pure (wpAny_bind (collect_list hl (wpAny_bind (wpAny_newList ?_ (by rw[sizeLine_eq];omega))) (by rw[sizeLine_eq];omega))));generalize hh:((s.heap.push (seqObj "list" #[] 0)).update s.heap.objs.size (Obj.mapSeq (·++vs.toArray)))=h1;have hsz:h1.objs.size=s.heap.objs.size+1:=by rw[←hh,Heap.size_update,size_push']
 have keep:∀b o,s.heap.get? b=some o→(h1.push (seqObj "list" vs.toArray 0)).get? b=some o:=fun b o q=>by
  have hZ:b<s.heap.objs.size:=Heap.lt_size q;rw[Heap.get?_push_ne _ _ _ (by rw[hsz];exact Nat.ne_of_lt (Nat.lt_succ_of_lt hZ)),←hh,Heap.get?_update_ne _ _ _ _ (Nat.ne_of_lt hZ),Heap.get?_push_ne _ _ _ (Nat.ne_of_lt hZ)];exact q
 have HQ:(h1.push (seqObj "list" vs.toArray 0)).get? h1.objs.size=some (seqObj "list" vs.toArray 0):=Heap.get?_push_size _ rfl;have IG:∀h',Kp h1.objs.size (h1.push (seqObj "list" vs.toArray 0)) h'→∀b o,s.heap.get? b=some o→h'.get? b=some o:=fun h' k b o q=>k b o (by have:=Heap.lt_size q;rw[hsz];exact Nat.ne_of_lt (Nat.lt_succ_of_lt this)) (keep b o q)
 show wpAny _ _ _ _ _ {s with heap:=h1.push (seqObj "list" vs.toArray 0)};refine wpAny_bind (wpAny_holding (wpAny_call_entry slot_list_sort ⟨_,HQ,rfl⟩ entry_list_sort ?_ (args_list_sort _)));by_cases h2:2≤vs.length
 ·refine Cs (s:={s with heap:=h1.push (seqObj "list" vs.toArray 0)}) (lt:=lt) HQ h2 ES NR L (fun s' k Q' q=>hk h2 s' (IG _ k) Q' q) (fun i j hi hj s' k C q=>hc i j hi hj s' (IG _ k) C q) fun p h' c hp hs k e=>?_
  exact⟨_,rfl,wpAny_pure ⟨_,rfl,h p h' _ c hp hs (IG _ k) (by rw[show({s with heap:=h1}:Shared).heap.objs.size=h1.objs.size from rfl,hsz];exact Nat.le_succ _) e⟩⟩
 ·refine yH (s:={s with heap:=h1.push (seqObj "list" vs.toArray 0)}) HQ Zw fun h' c k e=>?_
  have hp:xS vs.length (List.toArray (List.range vs.length)):=by unfold xS;simp
  refine⟨_,rfl,wpAny_pure ⟨_,rfl,h _ h' _ c hp (fun i j uh hj=>Zz) (IG _ k) (by rw[show({s with heap:=h1}:Shared).heap.objs.size=h1.objs.size from rfl,hsz];exact Nat.le_succ _) ?_⟩⟩;rw[e]
  congr 2
  match vs,h2 with
  |[],_=>rfl
  |[x],_=>rfl
  |x::y::r,h=>simp at h
end
def jw(p q:Int×Int):Bool:=if p.1=q.1 then decide (p.2<q.2)else decide (p.1<q.1)
theorem ET{p q r:Int×Int}(a:jw p q=true)(b:jw q r=true):jw p r=true:=by
 unfold jw at*;split at a<;>split at b<;>split<;>simp_all<;>omega
theorem Ae{p q:Int×Int}(a:jw p q=true):jw q p=false:=by
 unfold jw at*;split at a<;>split<;>simp_all<;>omega
theorem Bw{p q:Int×Int}(h:p≠q):jw p q=true∨jw q p=true:=by
 unfold jw;by_cases e:p.1=q.1
 ·have:p.2≠q.2:=fun z=>h (Prod.ext e z)
  simp[e];omega
 ·have e':¬q.1=p.1:=fun z=>e z.symm
  simp[e,e'];omega
section
variable{prog:Program}{w:World}{A:Around}{E:Value→Shared→Prop}{s:Shared}
def rM(h:Heap)(x:Addr)(p:Int×Int):Prop:=∃o t u n,h.get? x=some o∧o.cls= .type "tuple"∧o.data= .seq #[.int p.1 t, .int p.2 u] n
theorem G_{x y:Addr}{p q:Int×Int}{C:Bool→Shared→Prop}(hx:rM s.heap x p)(hy:rM s.heap y q)(h:C (jw p q) s):wpAny (model prog w) A (keyLt' (tuples' true) (.ref x) (.ref y)) C E s:=by
 obtain⟨ox,t,u,n,h1,h2,h3⟩:=hx;obtain⟨oy,t',u',n',g1,g2,g3⟩:=hy;refine kat_lt h1 h3 g1 g3 (kat_cons ?_);have e0:SeqAt.EqAt A s (.int p.1 t) (.int q.1 t') (v5 (.int p.1) (.int q.1)):=v7 ⟨t,rfl⟩ ⟨t',rfl⟩ rfl rfl;have e1:SeqAt.EqAt A s (.int p.2 u) (.int q.2 u') (v5 (.int p.2) (.int q.2)):=v7 ⟨u,rfl⟩ ⟨u',rfl⟩ rfl rfl;refine e0 _ _ _ _ ?_;by_cases a:p.1=q.1
 ·have:v5 (.int p.1) (.int q.1)=true:=by simp[v5,a]
  rw[this];refine kat_yes (kat_cons (e1 _ _ _ _ ?_));by_cases b:p.2=q.2
  ·have:v5 (.int p.2) (.int q.2)=true:=by simp[v5,b]
   rw[this];refine kat_yes (kat_nil ?_);have:jw p q=decide (#[Value.int p.1 t, .int p.2 u].size<#[Value.int q.1 t', .int q.2 u'].size):=by simp[jw,a,b]
   rw[this]at h;exact h
  ·have:v5 (.int p.2) (.int q.2)=false:=by simp[v5,b]
   rw[this];refine kat_no (kat_one _ _ (lt_int ?_));have:jw p q=decide (p.2<q.2):=by simp[jw,a]
   rw[this]at h;exact h
 ·have:v5 (.int p.1) (.int q.1)=false:=by simp[v5,a]
  rw[this];refine kat_no (oneLt_int ?_);have:jw p q=decide (p.1<q.1):=by simp[jw,a]
  rw[this]at h;exact h
theorem vC{h:Heap}:∀{its:List Value},(∀v∈its,∃x p,v= .ref x∧rM h x p)→∃fs,KatTups h its fs∧fs.length=its.length∧∀f∈fs,∃i t,f=Value.int i t
 |[],_=>⟨[], .nil,rfl,fun f hf=>by cases hf⟩
 |v::r,hv=>by
  obtain⟨x,p,rfl,o,t,u,n,h1,h2,h3⟩:=hv v (List.mem_cons_self ..);obtain⟨fs,k1,k2,k3⟩:=vC (its:=r) fun v MR=>hv v (List.mem_cons_of_mem _ MR)
  refine⟨.int p.1 t::fs, .cons h1 h2 h3 rfl k1,by simp[k2],fun f hf=>?_⟩;rcases List.mem_cons.mp hf with rfl|hf
  ·exact⟨_,_,rfl⟩
  ·exact k3 f hf
theorem Ct{its:List Value}{Q:SortKind→Shared→Prop}(eR:0<its.length)(hv:∀v∈its,∃x p,v= .ref x∧rM s.heap x p)(h:Q (tuples' true) s):wpAny (model prog w) A (keyKind' its.toArray) Q E s:=by
 obtain⟨fs,k1,k2,k3⟩:=vC hv;refine kat_kind (T:= .type "int") k1 Zw (fun v hv=>?_) (ZA) h;obtain⟨i,t,rfl⟩:=k3 v hv;exact .now
end
theorem yI{l:List Nat}{f:Nat→V}{g:Nat→Value}(h:∀i∈l,RelV (f i) (g i)):Vals (l.map f) (l.map g):=by
 induction l with
 |nil=>exact .nil
 |cons i r ih=>exact .cons (h i (List.mem_cons_self ..)) (ih fun j hj=>h j (List.mem_cons_of_mem _ hj))
end L2
namespace QF
open PySem L2 PySem.Spec PyProof.Rows PySem.W PySem.Calls
inductive EU(K:Frag)(vs:List V)(H:Hp)(Q:VK):Prop
 |mk (l:Addr) (xs:List V) (ps:List Pr) (_:vs=[.ref l]) (_:iC K H l xs) (_:gI H xs ps) (_:ps.Nodup) (_:ps.length<10000) (_:∀D ys qs,H D=none→gI H ys qs→qs.Perm ps→qs.Pairwise (fun p q=>jw p q=true)→Q (.ref D) (upd H D (.lst ys))):EU K vs H Q
theorem Af{X:Cx}(K:Frag)(hK:X.K=K:=by rfl):iY X (.builtin "sorted") (EU K):=by
 subst hK;intro pins s σ H vs us Q I r h;obtain⟨l,xs,ps,rfl,hq,PS,nd,ES,q⟩:=h;obtain⟨u,rfl,rx⟩:=vals1 r;cases rx;obtain⟨its,r',pl,hz⟩:=I.list hq;have hlen:=r'.length;have rh:=PS.1;have key:∀i,i<its.length→∃t,xs[i]?=some (.ref t)∧its[i]?=some (.ref t)∧H t=some (.tup (jr (ps.getD i (0,0))))∧rM s.heap t (ps.getD i (0,0)):=fun i hi=>by
  have hp:ps[i]?=some (ps.getD i (0,0)):=by simp[show i<ps.length by omega]
  obtain⟨t,h1,h2⟩:=PS.2 i _ hp;obtain⟨v,h3,h4⟩:=r'.get h1;cases h4;refine⟨t,h1,h3,h2,?_⟩;obtain⟨Yx,r2,⟨o,e1,e2,n,e3⟩,_⟩:=I.tuple (xs:=jr (ps.getD i (0,0))) (.of h2);cases r2 with
  |cons a b=>
   cases b with
   |cons c d=>
    cases d;obtain⟨ta,rfl⟩:=a;obtain⟨tc,rfl⟩:=c;exact⟨o,ta,tc,n,e1,e2,e3⟩
 have IG:∀{h':Heap},(∀b o,s.heap.get? b=some o→h'.get? b=some o)→∀{x p},rM s.heap x p→rM h' x p:=fun k _ _ ⟨o,t,u,n,a,b⟩=>⟨o,t,u,n,k _ _ a,b⟩
 have L:ZG its.length fun i j=>jw (ps.getD i (0,0)) (ps.getD j (0,0)):=by
  refine⟨fun i j k _ _ _ a b=>ET a b,fun i j _ _ a=>Ae a,fun i j hi hj eR=>Bw fun e=>eR ?_⟩;have e:ps[i]?=ps[j]?:=by
   rw[List.getElem?_eq_getElem Zw,List.getElem?_eq_getElem Zw];simpa[show i<ps.length by omega,show j<ps.length by omega]using e
  exact(List.getElem?_inj Zw nd).mp e
 have NR:its.Nodup:=by
  refine List.pairwise_iff_getElem.mpr fun i j hi hj uh e=>?_
  obtain⟨t1,_,a2,a3,_⟩:=key i hi;obtain⟨t2,_,b2,b3,_⟩:=key j hj;rw[List.getElem?_eq_getElem hi]at a2;rw[List.getElem?_eq_getElem hj,←e,a2]at b2;cases b2;rw[a3]at b3;have h1:ps[i]?=some (ps.getD i (0,0)):=by simp[show i<ps.length by omega]
  have h2:ps[j]?=some (ps.getD j (0,0)):=by simp[show j<ps.length by omega]
  have e9:ps.getD i (0,0)=ps.getD j (0,0):=by
   have:=HO.tup.inj (Zt b3);simp only[jr,List.cons.injEq,V.int.injEq,and_true]at this;exact Prod.ext this.1 this.2
  have:=(List.getElem?_inj Zw nd).mp (h1.trans (by rw[e9];exact h2.symm));omega
 refine Ad (κ:=tuples' true) pl.isList Zw NR L (fun h2 s' k Q' hq=>?_) (fun i j hi hj s' k C hC=>?_) fun p h' D c hp hs k hD e=>?_
 ·refine Ct Zw (fun v hv=>?_) hq;obtain⟨i,hi,rfl⟩:=List.mem_iff_getElem.mp hv;obtain⟨t,_,h3,_,h5⟩:=key i hi;exact⟨t,_,by rw[List.getElem?_eq_getElem hi]at h3;exact Zt h3,IG k h5⟩
 ·obtain⟨t,_,h3,_,h5⟩:=key i hi;obtain⟨t',_,g3,_,g5⟩:=key j hj;have e1:its.getD i .none= .ref t:=by simp[h3]
  have e2:its.getD j .none= .ref t':=by simp[g3]
  rw[e1,e2];exact G_ (IG k h5) (IG k g5) hC
 ·have mem:∀i∈p.toList,i<its.length:=fun i hi=>by
   have:=hp.mem_iff.mp hi;simpa using this
  have rel:Vals (p.toList.map fun i=>xs.getD i .cN) (p.toList.map fun i=>its.getD i Value.none):=yI fun i hi=>by
   obtain⟨t,h1,h3,_⟩:=key i (mem i hi);have e1:xs.getD i .cN= .ref t:=by simp[h1]
   have e2:its.getD i .none= .ref t:=by simp[h3]
   rw[e1,e2];rfl
  have hsz:(p.toList.map fun i=>xs.getD i V.cN).length=its.length:=by rw[List.length_map,Array.length_toList,hp.size]
  have K1:(p.toList.map fun i=>ps.getD i (0,0)).length=its.length:=by rw[List.length_map,Array.length_toList,hp.size]
  refine⟨.ref D,_,I.laid (t':=s.toks) k hD (show cO X.prog X.w _ h' _ (.lst _)from⟨by rw[hsz,←hlen];exact hz,_,c,rel,e⟩),rfl,q D _ (p.toList.map fun i=>ps.getD i (0,0)) (I.bX.fresh hD) ⟨by rw[hsz,K1],fun i f hf=>?_⟩ ?_ ?_⟩
  ·rw[List.getElem?_map]at hf⊢;cases ei:p.toList[i]? with
   |none=>rw[ei]at hf;cases hf
   |some j=>
    rw[ei]at hf;have hf:ps.getD j (0,0)=f:=Zt hf;obtain⟨t,h1,h3,h4,_⟩:=key j (mem j (Zk ei));refine⟨t,?_,by rw[←hf];exact h4⟩;show some (xs.getD j .cN)=_;simp[h1]
  ·have h1:=hp.map (fun i=>ps.getD i (0,0));refine h1.trans ?_;have:(List.range its.length).map (fun i=>ps.getD i (0,0))=ps:=by
    apply List.ext_getElem?;intro i;rw[List.getElem?_map];by_cases hi:i<its.length
    ·rw[List.getElem?_range hi];simp[show i<ps.length by omega]
    ·rw[List.getElem?_eq_none (by simp;omega),List.getElem?_eq_none Zw];rfl
   rw[this]
  ·rw[List.pairwise_iff_getElem];intro i j hi hj uh;have A8:i<its.length:=by rw[K1]at hi;exact hi
   have Dh:j<its.length:=by rw[K1]at hj;exact hj
   have:=hs i j uh Dh;have Di:=hp.size;simp only[List.getElem_map];have e1:gd p i=p.toList[i]'(by simp;omega):=by simp[gd,show i<p.size by omega]
   have e2:gd p j=p.toList[j]'(by simp;omega):=by simp[gd,show j<p.size by omega]
   rw[e1,e2]at this;exact this
end QF
namespace L2
open PySem PySem.Spec PyProof.Rows PySem.W PySem.Calls
open AutoSeq1 (wpAny_loadPart')
theorem NU{A:Around}{s:Shared}{i j:Int}{t u:Tok}:SeqAt.EqAt A s (.int i t) (.int j u) (decide (i=j)):=by
 have:=v7 (A:=A) (s:=s) (y:= .int i) (x:= .int j) ⟨t,rfl⟩ ⟨u,rfl⟩ rfl rfl;simpa[v5,Bool.beq_eq_decide_eq]using this
theorem NV{prog:Program}{w:World}{A:Around}{E:Value→Shared→Prop}{s:Shared}{i j:Int}{t u:Tok}{Q:Value→Shared→Prop}(h:Q (.bool (decide (i<j))) s):wpAny (model prog w) A (richCompare .Lt (.int i t) (.int j u)) Q E s:=lt_int h
theorem EV(l b:Addr)(p q:Int×Int)(t u t' u':Tok)(n n2:Nat)(dd Eh:Option Addr)(sl xQ:Array (Option Value)):
  Meets (Builtin.«tuple.__lt__» ⟨[.ref l, .ref b],[]⟩) (fun A R s=>s.heap.get? l=some {cls:= .type "tuple",dict:=dd,data:= .seq #[.int p.1 t, .int p.2 u] n,slots:=sl}∧s.heap.get? b=some {cls:= .type "tuple",dict:=Eh,data:= .seq #[.int q.1 t', .int q.2 u'] n2,slots:=xQ}∧
    R (.ok (.ret (.bool (jw p q)))) s):=
 .of_wp fun prog w A R s h=>by
  obtain⟨hp,g,d,tk,os⟩:=s;obtain⟨hl,hb,h⟩:=h;have f2:=AutoSeq1.sub_tuple_tuple
  wp_walk using wpAny_loadPart' hl,wpAny_loadPart' hb
  refine(show wpAny (model prog w) A.in1 (eqBool (.int p.1 t) (.int q.1 t')) _ _ _ from NU _ _ _ _ ?_);by_cases a:p.1=q.1
  ·rw[decide_eq_true a]
   wp_walk
   refine(show wpAny (model prog w) A.in1 (eqBool (.int p.2 u) (.int q.2 u')) _ _ _ from NU _ _ _ _ ?_);by_cases c:p.2=q.2
   ·rw[decide_eq_true c]
    wp_walk
    have e:jw p q=false:=by simp[jw,a,c]
    rw[e]at h;exact⟨_,rfl,h⟩
   ·rw[decide_eq_false c];have e:jw p q=decide (p.2<q.2):=by simp[jw,a]
    rw[e]at h
    wp_walk using NV
    exact⟨_,rfl,h⟩
  ·rw[decide_eq_false a];have e:jw p q=decide (p.1<q.1):=by simp[jw,a]
   rw[e]at h
   wp_walk using NV
   exact⟨_,rfl,h⟩
theorem Ag{prog:Program}{w:World}{A:Around}{E:Value→Shared→Prop}{s:Shared}{x y:Addr}{p q:Int×Int}{Q:Value→Shared→Prop}(hu:A.units<cLine)(hx:rM s.heap x p)(hy:rM s.heap y q)(h:Q (.bool (jw p q)) s):wpAny (model prog w) A (compareOp .Lt (.ref x) (.ref y)) Q E s:=by
 obtain⟨⟨c,dd,da,sl⟩,t,u,n,h1,h2,h3⟩:=hx;obtain⟨⟨c',Ib,Yy,Qo⟩,t',u',n',g1,g2,g3⟩:=hy;simp only at h2 h3 g2 g3;subst h2 h3 g2 g3;exact richCompare_meets_room (op:= .Lt) ⟨_,h1,rfl⟩ ⟨_,g1,rfl⟩ F.slot_tuple_lt F.entry_tuple_lt (F.args_tuple_lt_2 _ _) (EV x y p q t u t' u' n n' dd Ib sl Qo) ⟨h1,g1,show Value.bool (jw p q)≠Value.notImplemented∧Q (.bool (jw p q)) s from⟨(fun x=>nomatch x),h⟩⟩ hu
abbrev Kw:=Int×(Int×Int)
def ZE(a b:Kw):Bool:=if a.1=b.1 then jw a.2 b.2 else decide (a.1<b.1)
theorem K2{p q r:Kw}(a:ZE p q=true)(b:ZE q r=true):ZE p r=true:=by
 unfold ZE at*;by_cases h1:p.1=q.1<;>by_cases h2:q.1=r.1
 ·rw[Zp h1]at a;rw[Zp h2]at b;rw[Zp (h1.trans h2)];exact ET a b
 ·rw[Zm h2]at b;rw[Zm (by rw[h1];exact h2),h1];exact b
 ·rw[Zm h1]at a;rw[Zm (by rw[←h2];exact h1),←h2];exact a
 ·rw[Zm h1]at a;rw[Zm h2]at b;have a:=of_decide_eq_true a;have b:=of_decide_eq_true b;rw[if_neg Zw];exact decide_eq_true Zw
theorem K3{p q:Kw}(a:ZE p q=true):ZE q p=false:=by
 unfold ZE at*;by_cases h1:p.1=q.1
 ·rw[Zp h1]at a;rw[Zp h1.symm];exact Ae a
 ·rw[Zm h1]at a;rw[Zm (fun z=>h1 z.symm)];have a:=of_decide_eq_true a;exact decide_eq_false Zw
theorem Ha{p q:Kw}(h:p≠q):ZE p q=true∨ZE q p=true:=by
 unfold ZE;by_cases h1:p.1=q.1
 ·rw[Zp h1,Zp h1.symm];exact Bw fun z=>h (Prod.ext h1 z)
 ·rw[Zm h1,Zm (fun z=>h1 z.symm)];rcases Int.lt_or_lt_of_ne h1 with z|z
  ·exact .inl (decide_eq_true z)
  ·exact .inr (decide_eq_true z)
section
variable{prog:Program}{w:World}{A:Around}{E:Value→Shared→Prop}{s:Shared}
def vD(h:Heap)(x:Addr)(k:Kw):Prop:=∃o t y c,h.get? x=some o∧o.cls= .type "tuple"∧o.data= .seq #[.int k.1 t, .ref y] c∧rM h y k.2
theorem Cu{x y:Addr}{p q:Int×Int}(hu:A.units+1<cLine)(hx:rM s.heap x p)(hy:rM s.heap y q):SeqAt.EqAt A s (.ref x) (.ref y) (decide (p=q)):=by
 obtain⟨o,t,u,n,h1,h2,h3⟩:=hx;obtain⟨o',t',u',n',g1,g2,g3⟩:=hy;by_cases e:x=y
 ·subst e;rw[h1]at g1;cases g1;rw[h3]at g3;injection g3 with g3 _;have g3:=congrArg Array.toList g3;simp at g3;have:p=q:=Prod.ext g3.1.1 g3.2.1;rw[decide_eq_true this];exact SeqAt.EqAt.same _
 ·have:=SeqAt.EqAt.of_refs e (SeqAt.RcAt.tuples (A:=A) (s:=s) (items:=#[.int p.1 t, .int p.2 u]) (items2:=#[.int q.1 t', .int q.2 u']) (e:=fun j=>if j=0 then decide (p.1=q.1)else decide (p.2=q.2)) ⟨o,h1,h2,n,h3⟩ ⟨o',g1,g2,n',g3⟩ Zw fun j h1 h2=>by
   have:j=0∨j=1:=by simp at h1;omega
   rcases this with rfl|rfl
   ·exact NU
   ·exact NU)
  have e2:((List.range (min #[Value.int p.1 t, .int p.2 u].size #[Value.int q.1 t', .int q.2 u'].size)).all (fun j=>if j=0 then decide (p.1=q.1)else decide (p.2=q.2))&&#[Value.int p.1 t, .int p.2 u].size==#[Value.int q.1 t', .int q.2 u'].size)=decide (p=q):=by
   simp[List.range_succ];by_cases a:p.1=q.1<;>by_cases b:p.2=q.2<;>simp[Prod.ext_iff,a,b]
  rw[e2]at this;exact this
theorem K4{x y:Addr}{p q:Kw}{C:Bool→Shared→Prop}(hu:A.units+1<cLine)(hx:vD s.heap x p)(hy:vD s.heap y q)(h:C (ZE p q) s):wpAny (model prog w) A (keyLt' (tuples' true) (.ref x) (.ref y)) C E s:=by
 obtain⟨ox,t,z,n,h1,h2,h3,h4⟩:=hx;obtain⟨oy,t',z',n',g1,g2,g3,g4⟩:=hy;refine kat_lt h1 h3 g1 g3 (kat_cons (NU _ _ _ _ ?_));by_cases a:p.1=q.1
 ·rw[decide_eq_true a];refine kat_yes (kat_cons (Cu hu h4 g4 _ _ _ _ ?_));have e:ZE p q=jw p.2 q.2:=Zp a;by_cases b:p.2=q.2
  ·rw[decide_eq_true b];refine kat_yes (kat_nil ?_);have:ZE p q=decide (#[Value.int p.1 t, .ref z].size<#[Value.int q.1 t', .ref z'].size):=by rw[e,b];simp[jw]
   rw[this]at h;exact h
  ·rw[decide_eq_false b];rw[e]at h;exact kat_no (kat_one _ _ (Ag Zw h4 g4 h))
 ·rw[decide_eq_false a];have e:ZE p q=decide (p.1<q.1):=Zm a;rw[e]at h;exact kat_no (oneLt_int h)
end
theorem K5{X:Cx}{cm:Bool}{k:Nat}{f:Addr}{fd:FuncData}{ps:List Str}{sp:Sp}{A':Around}{pins:List (Addr×Obj)}{σ:St}{H:Hp}{s:Shared}{Q:VK}{us:List Value}{vs:List V}{E:Value→Shared→Prop}
  (F:aZ X.prog X.w X.K X.mg X.base (cV X.prog X.w) cm k f fd ps sp) (hr:eQ cm k A') (hf:A'.frames=X.A.frames) (hb:Binds X.K fd ps []) (I:Inv X pins σ H s) (r:Vals vs us) (h:sp vs H Q E0):
  wpAny (model X.prog X.w) A' (call (.ref f) us) (EP X pins σ Q) E s:=by
 have hl:(us++[]).length=ps.length:=by rw[List.append_nil,←r.length];exact F.len _ _ _ _ h
 have LV:=hb s us I.p9 hl;rw[List.append_nil]at LV;refine wpAny_call (codeAny_mono (F.run A' X.stack s H ⟨us,[]⟩ us vs Q E0 hr {I.JM with frames:=by rw[hf];exact I.ok.frames} LV r h) fun r s' hq=>?_);cases r with
 |error e=>obtain⟨_,_,_,_,_,_,_,_,_,_,_,_,_,h⟩:=hq;exact h.elim
 |ok fl=>
  cases fl with
  |ret u=>exact I.after hq
  |next=>exact False.elim hq
  |brk=>exact False.elim hq
  |cont=>exact False.elim hq
end L2
namespace QF
open PySem L2 PySem.Spec PyProof.Rows PySem.W PySem.Calls
def KQ(H1:Hp)(w:Kw):VK:=fun y H2=>ax H1 H2∧∃k t,y= .ref k∧H2 k=some (.tup [.int w.1, .ref t])∧H2 t=some (.tup [.int w.2.1, .int w.2.2])
def kl(ws:List Kw)(i j:Nat):Bool:=ZE (ws.getD i (0,(0,0))) (ws.getD j (0,(0,0)))
def Ks(H:Hp)(ws:List Kw)(as:List Addr):Prop:=∀j k,as[j]?=some k→∃t,H k=some (.tup [.int (ws.getD j (0,(0,0))).1, .ref t])∧H t=some (.tup [.int (ws.getD j (0,(0,0))).2.1, .int (ws.getD j (0,(0,0))).2.2])
theorem Ks.key{X:Cx}{pins:List (Addr×Obj)}{σ:L2.St}{H:Hp}{s:Shared}{ws:List Kw}{as:List Addr}{j:Nat}{k:Addr}(I:Inv X pins σ H s)(h:Ks H ws as)(e:as[j]?=some k):vD s.heap k (ws.getD j (0,(0,0))):=by
 obtain⟨t,h1,h2⟩:=h j k e;obtain⟨its,r,⟨o,e1,e2,n,e3⟩,_⟩:=I.tuple (xs:=[.int (ws.getD j (0,(0,0))).1, .ref t]) (.of h1);obtain⟨its',r',⟨o',g1,g2,n',g3⟩,_⟩:=I.tuple (xs:=[.int (ws.getD j (0,(0,0))).2.1, .int (ws.getD j (0,(0,0))).2.2]) (.of h2);cases r with
 |cons a b=>cases b with
  |cons c d=>
   cases d;obtain⟨ta,rfl⟩:=a;cases c;cases r' with
   |cons a' b'=>cases b' with
    |cons c' d'=>
     cases d';obtain⟨Wv,rfl⟩:=a';obtain⟨Ww,rfl⟩:=c';exact⟨o,ta,t,n,e1,e2,e3,o',Wv,Ww,n',g1,g2,g3⟩
theorem yJ{h:Heap}:∀{its:List Value},(∀v∈its,∃x p,v= .ref x∧vD h x p)→∃fs,KatTups h its fs∧fs.length=its.length∧∀f∈fs,∃i t,f=Value.int i t
 |[],_=>⟨[], .nil,rfl,fun f hf=>by cases hf⟩
 |v::r,hv=>by
  obtain⟨x,p,rfl,o,t,u,n,h1,h2,h3,_⟩:=hv v (List.mem_cons_self ..);obtain⟨fs,k1,k2,k3⟩:=yJ (its:=r) fun v MR=>hv v (List.mem_cons_of_mem _ MR)
  refine⟨.int p.1 t::fs, .cons h1 h2 h3 rfl k1,by simp[k2],fun f hf=>?_⟩;rcases List.mem_cons.mp hf with rfl|hf
  ·exact⟨_,_,rfl⟩
  ·exact k3 f hf
theorem EW{prog:Program}{w:World}{A:Around}{E:Value→Shared→Prop}{s:Shared}{its:List Value}{Q:SortKind→Shared→Prop}(eR:0<its.length)(hv:∀v∈its,∃x p,v= .ref x∧vD s.heap x p)(h:Q (tuples' true) s):wpAny (model prog w) A (keyKind' its.toArray) Q E s:=by
 obtain⟨fs,k1,k2,k3⟩:=yJ hv;refine kat_kind (T:= .type "int") k1 Zw (fun v hv=>?_) (ZA) h;obtain⟨i,t,rfl⟩:=k3 v hv;exact .now
section
variable{X:Cx}{cm:Bool}{k:Nat}{f:Addr}{fd:FuncData}{ps:List Str}{sp:Sp}{A':Around}{pins:List (Addr×Obj)}{σ:L2.St}{H:Hp}{s:Shared}{E:Value→Shared→Prop}{a kS:Addr}{vs:List Value}{xs:List V}{ws:List Kw}{e1:Nat}{P:PySem.Fin→Shared→Prop}
theorem EX(hu:A'.units+1<cLine)(I:Inv X pins σ H s){kA:Array Value}{e:Nat}{as:List Addr}(hk:s.heap.get? kS=some (seqObj "list" kA e))(ha:s.heap.get? a=some (seqObj "list" #[] e1))(fk:iu X pins H kS)(fa:iu X pins H a)(eR:kS≠a)
  (ek:kA.toList=as.map Value.ref) (el:as.length=vs.length) (K:Ks H ws as) (r:Vals xs vs) (hlen:ws.length=vs.length) (nd:ws.Nodup) (ES:vs.length<10000)
  (h:∀p s',xS vs.length p→Sd (kl ws) p vs.length→Inv X pins σ (upd H a (.lst (p.toList.map fun i=>xs.getD i .cN))) s'→P (.done (.ret .none)) s'):
  wpAny (model X.prog X.w) A' (ksk_end a false vs.toArray e1 (.ref kS) kA) P E s:=by
 have Wx:kA=(as.map Value.ref).toArray:=by apply Array.toList_inj.mp;simpa using ek
 subst Wx;have hl:(as.map Value.ref).length=vs.length:=by rw[List.length_map];exact el
 have key:∀i,i<vs.length→∃x,(as.map Value.ref).getD i Value.none= .ref x∧vD s.heap x (ws.getD i (0,(0,0))):=fun i hi=>by
  have hx:as[i]?=some as[i]:=List.getElem?_eq_getElem Zx;exact⟨as[i],by simp[show i<as.length by lia],K.key I hx⟩
 have L:ZG vs.length (kl ws):=by
  refine⟨fun i j k _ _ _ a b=>K2 a b,fun i j _ _ a=>K3 a,fun i j hi hj eR=>Ha fun e=>eR ?_⟩;have e:ws[i]?=ws[j]?:=by
   rw[List.getElem?_eq_getElem Zx,List.getElem?_eq_getElem Zx];simpa[show i<ws.length by lia,show j<ws.length by lia]using e
  exact(List.getElem?_inj Zx nd).mp e
 have tail:∀(st:SortSt)(p:Array Nat),xS vs.length p→Sd (kl ws) p vs.length→(arrOf st).map (·.2)=List.toArray (p.toList.map fun i=>vs.getD i Value.none)→failedOf st=none→wpAny (model X.prog X.w) A' (ksk_tail a false e1 (.ref kS) st) P E s:=fun st p hp hs hm hf=>by
  have hsz:(List.toArray (p.toList.map fun i=>vs.getD i Value.none)).size=vs.length:=by rw[List.size_toArray,List.length_map,Array.length_toList,hp.size]
  have s1:=Heap.SameBut.update s.heap kS (Obj.mapSeq fun _=>(#[]:Array Value));have Ac:(s.heap.update kS (Obj.mapSeq fun _=>(#[]:Array Value))).get? a=some (seqObj "list" #[] e1):=(s1.2 a (Ne.symm eR)).trans ha;have s2:=Heap.SameBut.update (s.heap.update kS (Obj.mapSeq fun _=>(#[]:Array Value))) a (Obj.mapSeq fun _=>List.toArray (p.toList.map fun i=>vs.getD i Value.none));obtain⟨c2,ug⟩:∃c2,((s.heap.update kS (Obj.mapSeq fun _=>(#[]:Array Value))).update a (Obj.mapSeq fun _=>List.toArray (p.toList.map fun i=>vs.getD i Value.none))).get? a=some (seqObj "list" (List.toArray (p.toList.map fun i=>vs.getD i Value.none)) c2):=⟨_,get?_update_seq Ac fun _=>List.toArray (p.toList.map fun i=>vs.getD i Value.none)⟩
  unfold ksk_tail
  try dsimp only
  simp only[Bool.false_eq_true,if_false];rw[hm];refine wpAny_bind (listUpdate_at hk rfl (wpAny_bind (wpAny_letGo ?_)) (by rw[List.size_toArray,hl,sizeLine_eq];lia) (Nat.zero_le _));refine wpAny_bind (seqEpoch_at (s:={s with heap:=s.heap.update kS (Obj.mapSeq fun _=>(#[]:Array Value))}) Ac rfl (wpAny_bind (listUpdate_at (s:={s with heap:=s.heap.update kS (Obj.mapSeq fun _=>(#[]:Array Value))}) Ac rfl ?_ (Nat.zero_le _) (Nat.le_trans (Nat.le_of_eq hsz) (by rw[sizeLine_eq];lia)))));rw[hf];simp only[bne_self_eq_false,Bool.false_eq_true,if_false];have hr:=r.length;have mem:∀i∈p.toList,i<vs.length:=fun i hi=>by
   have:=hp.mem_iff.mp hi;simpa using this
  have rel:Vals (p.toList.map fun i=>xs.getD i .cN) (p.toList.map fun i=>vs.getD i Value.none):=yI fun i hi=>by
   have hi:=mem i hi;obtain⟨v,h1,h2⟩:=r.get (i:=i) (x:=xs[i]) (by simp[show i<xs.length by lia]);have e1:xs.getD i .cN=xs[i]:=by simp[show i<xs.length by lia]
   have e2:vs.getD i .none=v:=by simp[h1]
   rw[e1,e2];exact h2
  refine wpAny_pure (h p _ hp hs (I.Bf (t':=s.toks) (fp:=[kS,a]) (fun b hb=>?_) fa (fun b o hb e=>?_) ⟨by rw[List.length_map,Array.length_toList,hp.size,sizeLine_eq];lia,_,c2,rel,ug⟩))
  ·simp only[List.mem_cons,List.mem_singleton,List.not_mem_nil,or_false]at hb;rcases hb with rfl|rfl
   ·exact fk
   ·exact fa
  ·simp only[List.mem_cons,List.not_mem_nil,or_false,not_or]at hb;exact(s2.2 b hb.2).trans ((s1.2 b hb.1).trans e)
 unfold ksk_end
 try dsimp only
 simp only[Bool.false_eq_true,if_false];by_cases h2:2≤vs.length
 ·have xP:¬vs.toArray.size<2:=by rw[List.size_toArray];lia
  rw[Zm xP,Zm xP];refine wpAny_bind (wpAny_mono (EW (Q:=fun Pp s'=>Pp=tuples' true∧s'=s) (E:=E) (its:=as.map Value.ref) (by lia) (fun v hv=>?_) ⟨rfl,rfl⟩) ?_ fun _ _ x=>x)
  ·obtain⟨i,hi,rfl⟩:=List.mem_iff_getElem.mp hv;obtain⟨x,h3,h5⟩:=key i Zx;exact⟨x,_,by rw[←h3];simp[show i<as.length by simpa using hi],h5⟩
  rintro Pp s0 ⟨Wz,WA⟩;rw[Wz,WA];have NW:(as.map Value.ref).Nodup:=by
   refine List.pairwise_iff_getElem.mpr fun i j hi hj uh e=>?_
   have A8:i<as.length:=by simpa using hi
   have Dh:j<as.length:=by simpa using hj
   have e:as[i]=as[j]:=by simpa using e
   obtain⟨t1,a1,a2⟩:=K i as[i] (List.getElem?_eq_getElem A8);obtain⟨t2,b1,b2⟩:=K j as[j] (List.getElem?_eq_getElem Dh);rw[←e,a1]at b1;have h1:=HO.tup.inj (Zt b1);simp only[List.cons.injEq,V.int.injEq,V.ref.injEq,and_true]at h1;rw[←h1.2,a2]at b2;have h2:=HO.tup.inj (Zt b2);simp only[List.cons.injEq,V.int.injEq,and_true]at h2;have e9:ws.getD i (0,(0,0))=ws.getD j (0,(0,0)):=Prod.ext h1.1 (Prod.ext h2.1 h2.2);have g1:ws[i]?=some (ws.getD i (0,(0,0))):=by simp[show i<ws.length by lia]
   have g2:ws[j]?=some (ws.getD j (0,(0,0))):=by simp[show j<ws.length by lia]
   have:=(List.getElem?_inj Zx nd).mp (g1.trans (by rw[e9];exact g2.symm))
   lia
  refine wpAny_bind (wpAny_mono (Bv (lt:=kl ws) hl Zx L NW fun i j hi hj C hC=>?_) ?_ fun _ _ e=>e)
  ·obtain⟨x,h3,h5⟩:=key i hi;obtain⟨y,g3,g5⟩:=key j hj;rw[h3,g3];exact K4 hu h5 g5 hC
  rintro⟨⟨⟩,aT⟩ s' ⟨p,RT,hp,hs,RR,hf⟩;rw[RT];exact tail aT p hp hs (kat_snds hl RR) hf
 ·have xP:vs.toArray.size<2:=by rw[List.size_toArray];lia
  rw[Zp xP,Zp xP];refine wpAny_bind (wpAny_pure (wpAny_bind (wpAny_pure ?_)));have hp:xS vs.length (List.toArray (List.range vs.length)):=by unfold xS;simp
  refine tail _ _ hp (fun i j uh hj=>by lia) ?_ rfl;show((as.map Value.ref).toArray.zip vs.toArray).map (·.2)=_;apply Array.toList_inj.mp;rw[Array.toList_map,Array.toList_zip];refine(List.map_snd_zip (by simp;lia)).trans ?_
  match vs,h2 with
  |[],_=>rfl
  |[x],_=>rfl
  |x::y::r,h=>simp at h
theorem Cv(F:aZ X.prog X.w X.K X.mg X.base (cV X.prog X.w) cm k f fd ps sp)(hr:eQ cm k A')(hf:A'.frames=X.A.frames)(hb:Binds X.K fd ps [])(hu:A'.units+1<cLine)(I:Inv X pins σ H s)(hk:s.heap.get? kS=some (seqObj "list" #[] 0))(ha:s.heap.get? a=some (seqObj "list" #[] e1))
  (fk:iu X pins H kS) (fa:iu X pins H a) (eR:kS≠a) (r:Vals xs vs) (hlen:ws.length=vs.length) (nd:ws.Nodup) (ES:vs.length<10000)
  (oj:∀i v H1,xs[i]?=some v→ax H H1→sp [v] H1 (KQ H1 (ws.getD i (0,(0,0)))) E0)
  (h:∀p H' s',xS vs.length p→Sd (kl ws) p vs.length→ax H H'→H' a=none→Inv X pins σ (upd H' a (.lst (p.toList.map fun i=>xs.getD i .cN))) s'→P (.done (.ret .none)) s'):
  wpAny (model X.prog X.w) A' (ksk_rest a (.ref f) false vs.toArray e1 (.ref kS)) P E s:=by
 have L0:=r.length;unfold ksk_rest;refine wpAny_bind (wpAny_rule ?_);first
  |rw[List.forIn_toArray]
  |(rw[←Array.forIn_toList];simp only[List.toList_toArray])
 refine wpAny_bind (ksk_fold (fun i s'=>∃(H':Hp)(as:List Addr)(e:Nat),Inv X pins σ H' s'∧ax H H'∧s'.heap.get? kS=some (seqObj "list" (as.map Value.ref).toArray e)∧s'.heap.get? a=some (seqObj "list" #[] e1)∧iu X pins H' kS∧iu X pins H' a∧as.length=i∧Ks H' ws as) vs 0 s
  ⟨H,[],0,I,fun _ _ z=>z,hk,ha,fk,fa,rfl,fun j k e=>by simp at e⟩ ?_ ?_)
 ·rintro j x s' hx ⟨H',as,e,I',sm,En,NX,Pq,NY,el,K⟩;simp only[Nat.zero_add]at el⊢;have hj:j<vs.length:=(Y' hx).1;obtain⟨u,Uo,Pt⟩:=r.get (i:=j) (x:=xs[j]) (by simp[show j<xs.length by omega]);rw[hx]at Uo;cases Uo;have Ip:=I'.pinned (fp:=[kS,a]) (fun b hb=>by
   simp only[List.mem_cons,List.not_mem_nil,or_false]at hb;rcases hb with rfl|rfl
   ·exact Pq
   ·exact NY) (fun b hb=>by
   simp only[List.mem_cons,List.not_mem_nil,or_false]at hb;rcases hb with rfl|rfl
   ·exact⟨_,En,fun v z=>nomatch z⟩
   ·exact⟨_,NX,fun v z=>nomatch z⟩)
  refine wpAny_bind (wpAny_attempt (wpAny_mono (K5 F hr hf hb Ip (.cons Pt .nil) (oj j xs[j] H' (by simp[show j<xs.length by omega]) sm)) (fun v vV he=>?_) fun _ _ z=>z));obtain⟨y,H2,I2,ry,RU,kk,t,rfl,k1,k2⟩:=he;cases ry;dsimp only;have pk:=I2.pin (kS,_) (List.mem_append_right _ (List.mem_append_right _ (gO Zu En)));have pa:=I2.pin (a,_) (List.mem_append_right _ (List.mem_append_right _ (gO Zu NX)));have I3:=I2.lA;have s1:=Heap.SameBut.update vV.heap kS (Obj.mapSeq (·.push (.ref kk)));obtain⟨c2,ug⟩:∃c2,(vV.heap.update kS (Obj.mapSeq (·.push (.ref kk)))).get? kS=some (seqObj "list" ((as.map Value.ref).toArray.push (.ref kk)) c2):=⟨_,get?_update_seq pk.1 (·.push (.ref kk))⟩
  refine wpAny_bind (listUpdate_at pk.1 rfl ?_ (by simp;rw[sizeLine_eq];omega) (by simp;rw[sizeLine_eq];omega));have L1:iu X pins H2 kS:=⟨pk.2.1,Pq.2⟩
  have WB:iu X pins H2 a:=⟨pa.2.1,NY.2⟩
  refine wpAny_pure ⟨rfl,H2,as++[kk],c2,I3.turned (t':=vV.toks) (it:=kS) (fun b o hb e=>(s1.2 b hb).trans e) L1.1 L1.2.1 L1.2.2.2.1 L1.2.2.2.2.1 L1.2.2.2.2.2,fun b o z=>RU b o (sm b o z),?_,(s1.2 a (Ne.symm eR)).trans pa.1,L1,WB,by simp[el],fun i k ei=>?_⟩
  ·show(vV.heap.update kS (Obj.mapSeq (·.push (.ref kk)))).get? kS=_;rw[ug]
   congr 2
   simp
  ·by_cases hi:i<as.length
   ·rw[List.getElem?_append_left hi]at ei;obtain⟨t',g1,g2⟩:=K i k ei;exact⟨t',RU _ _ g1,RU _ _ g2⟩
   ·rw[List.getElem?_append_right Zw]at ei;have WC:i-as.length=0:=by
     have:=(Y' ei).1;simp at this;omega
    rw[WC]at ei;have:kk=k:=by simpa using ei
    subst this;have:i=j:=Zz;subst this;exact⟨t,k1,k2⟩
 ·rintro s' ⟨H',as,e,I',sm,En,NX,Pq,NY,el,K⟩;refine wpAny_bind (listItems_at En rfl ?_);exact EX hu I' En NX Pq NY eR Zu (Zz) K r hlen nd ES fun p s2 hp hs I2=>h p H' s2 hp hs sm NY.1 I2
theorem Cw{n:Nat}(F:aZ X.prog X.w X.K X.mg X.base (cV X.prog X.w) cm k f fd ps sp)(hr:eQ cm k A')(hf:A'.frames=X.A.frames)(hb:Binds X.K fd ps [])(hu:A'.units+1<cLine)(I:Inv X pins σ H s)(ho:s.heap.get? a=some (seqObj "list" vs.toArray n))
  (fa:iu X pins H a) (r:Vals xs vs) (hlen:ws.length=vs.length) (nd:ws.Nodup) (ES:vs.length<10000)
  (oj:∀i v H1,xs[i]?=some v→ax H H1→sp [v] H1 (KQ H1 (ws.getD i (0,(0,0)))) E0)
  (h:∀p H' s',xS vs.length p→Sd (kl ws) p vs.length→ax H H'→H' a=none→Inv X pins σ (upd H' a (.lst (p.toList.map fun i=>xs.getD i .cN))) s'→P (.done (.ret .none)) s'):
  wpAny (model X.prog X.w) A' (ksk_tree a (.ref f) false) P E s:=by
 have s1:=Heap.SameBut.update s.heap a (Obj.mapSeq fun _=>(#[]:Array Value));obtain⟨e1,G9⟩:∃e1,(s.heap.update a (Obj.mapSeq fun _=>(#[]:Array Value))).get? a=some (seqObj "list" #[] e1):=⟨_,get?_update_seq ho fun _=>#[]⟩
 have I1:Inv X pins σ H {s with heap:=s.heap.update a (Obj.mapSeq fun _=>(#[]:Array Value))}:=I.turned (t':=s.toks) (it:=a) (fun b o hb e=>(s1.2 b hb).trans e) fa.1 fa.2.1 fa.2.2.2.1 fa.2.2.2.2.1 fa.2.2.2.2.2;unfold ksk_tree;refine wpAny_bind (listItems_at ho rfl (wpAny_bind (listUpdate_at ho rfl ?_ (by rw[List.size_toArray,sizeLine_eq];omega) (Nat.zero_le _))));refine wpAny_bind (seqEpoch_at G9 rfl (wpAny_bind (wpAny_newTuple (wpAny_bind (wpAny_newList (wpAny_holding ?_) (Nat.zero_le _))) (by show vs.length≤_;rw[sizeLine_eq];omega))));have I2:Inv X pins σ H {s with heap:=(s.heap.update a (Obj.mapSeq fun _=>(#[]:Array Value))).push (seqObj "tuple" vs.toArray 0)}:=I1.kept (t':=s.toks) fun b o e=>Zn e
 have I3:Inv X pins σ H {s with heap:=((s.heap.update a (Obj.mapSeq fun _=>(#[]:Array Value))).push (seqObj "tuple" vs.toArray 0)).push (seqObj "list" #[] 0)}:=I2.kept (t':=s.toks) fun b o e=>Zn e
 have fk:=I2.uo (Nat.le_refl _) (I2.bX.fresh (Nat.le_refl _));have xR:=Heap.get?_push_of_some (seqObj "tuple" vs.toArray 0) G9;exact Cv F hr hf hb hu I3 (Heap.get?_push_size _ rfl) (Zn xR) fk fa (Nat.ne_of_gt (Heap.lt_size xR)) r hlen nd ES oj h
theorem Ah{l:Addr}{Q:VK}(F:aZ X.prog X.w X.K X.mg X.base (cV X.prog X.w) cm k f fd ps sp)(hr:eQ cm (k+1) X.A)(hb:Binds X.K fd ps [])(I:Inv X pins σ H s)(hq:iC X.K H l xs)(hlen:ws.length=xs.length)(nd:ws.Nodup)(ES:xs.length<10000)
  (oj:∀i v H1,xs[i]?=some v→ax H H1→sp [v] H1 (KQ H1 (ws.getD i (0,(0,0)))) E0)
  (h:∀p H' D,xS xs.length p→Sd (kl ws) p xs.length→ax H H'→H D=none→H' D=none→Q (.ref D) (upd H' D (.lst (p.toList.map fun i=>xs.getD i .cN)))):
  wpAny (model X.prog X.w) X.A (call (.builtin "sorted") [.ref l] [(Str.ofString "key", .ref f)]) (EP X pins σ Q) E s:=by
 obtain⟨vs,r,pl,hz⟩:=I.list hq;have L0:=r.length;refine call_function_entry_kw kind_sorted plain_sorted entry_sorted (ksk_s1 _ _) ?_;unfold Builtin.«sorted»;refine wpAny_bind (m:=checkCount "sorted" 1 1 _) (wpAny_pure (wpAny_bind (collect_list pl.isList (wpAny_bind (wpAny_newList ?_ (by rw[sizeLine_eq];omega))) (by rw[sizeLine_eq];omega))));generalize hh:((s.heap.push (seqObj "list" #[] 0)).update s.heap.objs.size (Obj.mapSeq (·++vs.toArray)))=h1;have hsz:h1.objs.size=s.heap.objs.size+1:=by rw[←hh,Heap.size_update,size_push']
 have keep:∀b o,s.heap.get? b=some o→(h1.push (seqObj "list" vs.toArray 0)).get? b=some o:=fun b o q=>by
  have hZ:b<s.heap.objs.size:=Heap.lt_size q;rw[Heap.get?_push_ne _ _ _ (by rw[hsz];exact Nat.ne_of_lt (Nat.lt_succ_of_lt hZ)),←hh,Heap.get?_update_ne _ _ _ _ (Nat.ne_of_lt hZ),Heap.get?_push_ne _ _ _ (Nat.ne_of_lt hZ)];exact q
 have HQ:(h1.push (seqObj "list" vs.toArray 0)).get? h1.objs.size=some (seqObj "list" vs.toArray 0):=Heap.get?_push_size _ rfl;have hD:s.heap.objs.size≤h1.objs.size:=by rw[hsz];exact Nat.le_succ _
 have Up:H h1.objs.size=none:=I.bX.fresh hD;have I1:Inv X pins σ H {s with heap:=h1.push (seqObj "list" vs.toArray 0)}:=I.kept (t':=s.toks) keep;show wpAny _ _ _ _ _ {s with heap:=h1.push (seqObj "list" vs.toArray 0)};refine wpAny_bind (wpAny_holding (wpAny_call_entry_kw slot_list_sort ⟨_,HQ,rfl⟩ entry_list_sort ?_ (ksk_l1 _ _)));show wpAny (model X.prog X.w) X.A.in1.in1 (Builtin.«list.sort» ⟨[.ref h1.objs.size],[(Str.ofString "key", .ref f)]⟩) _ _ _;rw[ksk_t1];have un:=hr.un;refine Cw F ⟨hr.hd,by have:=hr.dp;show X.A.depth+3*k+5<_;omega,by show X.A.units+1+1+16*k+200<_;omega⟩ rfl hb (by show X.A.units+1+1+1<_;omega) I1 HQ (I.uo hD Up) r Zw nd Zw oj fun p H' s' hp hs sm hn I'=>⟨_,rfl,wpAny_pure ⟨_,rfl, .ref h1.objs.size,_,I',rfl,?_⟩⟩
 rw[←L0]at hp hs;exact h p H' _ hp hs sm Up hn
end
inductive EY(K:Frag)(sp:Sp)(x:V)(H:Hp)(Q:VK):Prop
 |mk (l:Addr) (xs:List V) (ws:List Kw) (_:x= .ref l) (_:iC K H l xs) (_:ws.length=xs.length) (_:ws.Nodup) (_:xs.length<10000) (_:∀i v H1,xs[i]?=some v→ax H H1→sp [v] H1 (KQ H1 (ws.getD i (0,(0,0)))) E0)
  (_:∀p H' D,xS xs.length p→Sd (kl ws) p xs.length→ax H H'→H D=none→H' D=none→Q (.ref D) (upd H' D (.lst (p.toList.map fun i=>xs.getD i .cN)))):EY K sp x H Q
def K6(K:Frag)(sp:Sp)(ta:TE):TE:=fun σ H Q=>ta σ H fun x H1=>EY K sp x H1 Q
theorem EZ{X:Cx}(K:Frag){cm:Bool}{k:Nat}{x:Str}{ps:List Str}{sp:Sp}{e:Expr}{ta:TE}{p pos kp fp:Pos}(D:bK X.prog X.w X.K X.mg X.base cm k x ps sp)(hr:eQ cm (k+1) X.A)(he:PE X e ta)(hg:Gl X "sorted")(hm:X.mg "sorted"=none)
  (WD:Gl X x:=by rfl) (vU:(x==("__debug__":Str))=false:=by decide) (hs:starEach [e] X.env=[(false,eval e X.env)]:=by rfl) (hK:X.K=K:=by rfl):
  PE X (.Call (.Name "sorted" p) [e] [⟨some "key", .Name x fp,kp⟩] pos) (K6 K sp ta):=by
 subst hK;obtain⟨f,fd,ok,WE,hk,hb⟩:=D;intro pins s σ H Q I h;refine wpAny_Call_Name_kw (lu I hg hm (PyProof.Rows.Boot.«sorted») ?_ (ZA) (ZA));rw[hs];refine callWith_builtin_kwB (first:=[]) rfl rfl (evalArgs_kwB rfl ?_);refine Calls.spliced_cons ?_;show wpAny _ _ (eval e X.env) _ _ s;refine cH (he pins s σ H _ I h) fun v s1 ⟨y,H1,I1,r1,q1⟩=>Calls.spliced_nil ?_
 obtain⟨l,xs,ws,rfl,hq,hlen,nd,ES,oj,q⟩:=q1;cases r1;refine kws_cons ?_;show wpAny _ _ (eval (.Name x fp) X.env) _ _ s1;refine cH (AR (v:= .ref f) WD WE rfl vU pins s1 σ H1 (fun y H2=>y= .ref f∧H2=H1) I1 ⟨rfl,rfl⟩) fun u s2 ⟨y,H2,I2,r2,e1,e2⟩=>?_
 subst e1 e2;cases r2;refine kws_nil ?_;exact Ah ok hr hb I2 hq hlen nd ES oj q
end QF
namespace L2
open PySem PySem.Spec PyProof.Rows PySem.W PySem.Calls
def L3(hi:Int)(n:Nat):It:=⟨fun i _=>i<n,fun i H x H'=>H'=H∧x= .int (hi-i),fun i _=>n≤i⟩
theorem Cy{P:Program}{w:World}{K:PySem.W.Frag}{tg:Expr}(it:Addr)(hi:Int)(n:Nat):Turn P w K tg (L3 hi n) [it] it (fun i h=>IsRangeIter h it (hi+(i:Nat)*(-1)) ((n:Int)-(i:Nat)) (-1)) where
 mem:=ZD
 obj:=fun i h st b hb=>by
  have e:b=it:=by simpa using hb
  subst e;exact⟨_,st,fun v z=>by
   have z':Data.fields _=Data.cell v:=z;cases z'⟩
 keep:=fun i h h' st k=>k it (ZD) _ st
 item:=by
  intro X hP hw hK hc i pins s σ H E I hf st hg;subst hP hw hK;obtain⟨f0,f1,f2,f3,f4,f5⟩:=hf it (ZD);have W:=Walks.range (prog:=X.prog) (w:=X.w) (I.ok.hd hc) it hi (-1) n;refine W.item i s _ _ hg st fun v h' tk hv aT kk=>?_
  obtain⟨t,rfl⟩:=hv;have I1:Inv X pins σ H {s with heap:=h',toks:=tk}:=I.turned (fun b o hb e=>kk b o (by simpa using hb) e) f0 f1 f3 f4 f5;refine⟨_,rfl,yd (s:={s with heap:=h',toks:=tk}) (n:="range_iterator") aT rfl rfl (ZA) ⟨.int (hi-i),H,I1,⟨t,?_⟩,⟨rfl,rfl⟩,aT,fun b hb=>(hf b hb).1⟩⟩
  congr 1
  omega
 done:=by
  intro X hP hw hK hc i pins s σ H E I hf st hg;subst hP hw hK;obtain⟨f0,f1,f2,f3,f4,f5⟩:=hf it (ZD);exact wpAny_pyNext_range_end (I.ok.hd hc) st (by have:n≤i:=hg;omega) fun h' eb=>⟨rfl,I.turned (t':=s.toks) (fun b o hb e=>eb b o hb e) f0 f1 f3 f4 f5⟩
 self:=fun _ _ _ _ _ st h=>wpAny_pyIter_rangeiter st h
theorem rangeSize_down(a b:Int):Builtin.Range.rangeSize a b (-1)=if a>b then a-b else 0:=by
 unfold Builtin.Range.rangeSize;rw[if_neg (ZA)];split<;>simp
theorem small_down{a b:Int}(ha:-(2^62)≤a)(NX:a<2^62)(hb:-(2^62)≤b)(LV:b<2^62):Builtin.Range.small a b (-1)=true:=by
 unfold Builtin.Range.small;rw[rangeSize_down];simp only[Builtin.Range.rangeFitsLong,Bool.and_eq_true,Bool.or_eq_true,decide_eq_true_eq,beq_iff_eq,show ¬(-1:Int)>0 by decide,if_false];split<;>omega
section
variable{X:Cx}{tg:Expr}
theorem Hb{pins:List (Addr×Obj)}{σ:L2.St}{H:Hp}{s:Shared}{R:It→Hp→Prop}{E:Value→Shared→Prop}{hi lo:Int}{t u v:Tok}{tk:Nat}(I:Inv X pins σ H s)(h1:-(2^62)≤hi)(h2:hi<2^62)(h3:-(2^62)≤lo)(h4:lo<2^62)
  (q:R (L3 hi (hi-lo).toNat) H):wpAny (model X.prog X.w) X.A (pyIter (.ref s.heap.objs.size)) (QA X pins σ tg R) E {s with heap:=s.heap.push {cls:= .type "range",data:= .fields #[.int hi t, .int lo u, .int (-1) v]},toks:=tk}:=by
 refine wpAny_pyIter_range (IsRange.new ..) (small_down h1 h2 h3 h4) ?_;have I1:Inv X pins σ H {s with heap:=s.heap.push {cls:= .type "range",data:= .fields #[.int hi t, .int lo u, .int (-1) v]},toks:=tk}:=I.kept fun b o e=>Zn e
 refine⟨(s.heap.push {cls:= .type "range",data:= .fields #[.int hi t, .int lo u, .int (-1) v]}).objs.size,[(s.heap.push {cls:= .type "range",data:= .fields #[.int hi t, .int lo u, .int (-1) v]}).objs.size],_,_,H,rfl,
  I1.kept (t':=tk) fun b o e=>Zn e,Cy _ hi (hi-lo).toNat,?_,fun b hb=>?_,q⟩
 ·have e1:hi+((0:Nat):Int)*(-1)=hi:=ZD;have e2:(((hi-lo).toNat:Nat):Int)-((0:Nat):Int)=Builtin.Range.rangeSize hi lo (-1):=by rw[rangeSize_down];split<;>omega
  show IsRangeIter _ _ (hi+((0:Nat):Int)*(-1)) ((((hi-lo).toNat:Nat):Int)-((0:Nat):Int)) (-1);rw[e1,e2];exact Heap.get?_push_size _ rfl
 ·have e:b=(s.heap.push {cls:= .type "range",data:= .fields #[.int hi t, .int lo u, .int (-1) v]}).objs.size:=by simpa using hb
  subst e;exact I1.uo (Nat.le_refl _) (I1.bX.fresh (Nat.le_refl _))
def NZ(ta:TA):TI:=fun σ H R=>ta σ H fun vs H1=>∃i j:Int,vs=[.int i, .int j, .int (-1)]∧(-(2^30)≤i∧i<2^30∧-(2^30)≤j∧j<2^30)∧R (L3 i (i-j).toNat) H1
theorem vE{a b c:Expr}{ta:TA}{p pos:Pos}(hg:Gl X "range")(hm:X.mg "range"=none)(ha:PA X [a,b,c] ta)(hs:starEach [a,b,c] X.env=[(false,eval a X.env),(false,eval b X.env),(false,eval c X.env)]:=by rfl)(JJ:starEach [b,c] X.env=[(false,eval b X.env),(false,eval c X.env)]:=by rfl):
  PI X tg (.Call (.Name "range" p) [a,b,c] [] pos) (NZ ta):=by
 intro pins s σ H R I h;refine Call_ (lu I hg hm boot_range (PyProof.Rows.callWith_type1 (cH (ha pos pins s σ H _ I h) fun us s1 ⟨vs,H1,I1,r1,q1⟩=>?_) (by rw[hs,JJ]) (by rw[JJ];rfl)));obtain⟨i,j,e,⟨q1,q2,q3,q4⟩,q⟩:=q1;subst e;cases r1 with
 |cons r rr=>
  cases rr with
  |cons r' rr=>
   cases rr with
   |cons r2 rr=>
    cases rr;obtain⟨t,rfl⟩:=r;obtain⟨t',rfl⟩:=r';obtain⟨t2,rfl⟩:=r2;exact call_range_3 (ZA) (Hb I1 Zw (Zz) (Zz) (Zz) q) (Or.inl (PyProof.noPylong_small Zw))
theorem yK{hi:Int}{n:Nat}{g:TG}{tb:TS}{D:Ends}{σ:L2.St}{H:Hp}(Pv:Nat→L2.St→Hp→Prop)(h0:Pv 0 σ H)
  (hs:∀i σ H,i<n→Pv i σ H→g (.int (hi-i)) σ H fun fZ H2=>tb {D with nx:=Pv (i+1),ct:=Pv (i+1),bk:=D.nx} fZ H2) (hd:∀σ H,Pv n σ H→D.nx σ H):
  ∃W:Nat→Nat→L2.St→Hp→Prop,(∃m,W 0 m σ H)∧∀i m σ H,W i m σ H→
   ((L3 hi n).stop i H∧D.nx σ H)∨((L3 hi n).go i H∧∃N:L2.St→Hp→Prop,(∀bD H',N bD H'→∃m',m'<m∧W (i+1) m' bD H')∧∀x H',(L3 hi n).F1 i H x H'→g x σ H' fun fZ H2=>tb {D with nx:=N,ct:=N,bk:=D.nx} fZ H2):=by
 refine⟨fun i m σ H=>m=n-i∧i≤n∧Pv i σ H,⟨n,ZD,Nat.zero_le _,h0⟩,?_⟩;rintro i m σ H ⟨rfl,A8,p⟩;by_cases hZ:i<n
 ·refine .inr ⟨hZ,Pv (i+1),fun bD H' p'=>⟨n-(i+1),Zz,rfl,hZ,p'⟩,fun x H' y=>?_⟩;obtain⟨e,y⟩:=y;subst e y;exact hs i σ _ hZ p
 ·have e:i=n:=Zz;subst e;exact .inl ⟨Nat.le_refl _,hd σ H p⟩
end
theorem Cz{d:Addr}{o:Obj}{kvs:List (List Key×V)}{ls:List Str}{js:List Nat}{g:TG}{tt:TT}{te:TE}{σ:L2.St}{H1:Hp}{D:Addr}{Q:VK}(Pv:Nat→List V→L2.St→Hp→Prop)
  (h0:Pv 0 [] (lC ls js σ) (upd H1 D (.lst []))) (hl:∀i ys σ H,i≤kvs.length→Pv i ys σ H→H d=some (.r9 o (.dT kvs)))
  (hs:∀i p ys σ H,kvs[i]?=some p→Pv i ys σ H→g p.2 σ H fun fZ H3=>tt fZ H3 fun b H4=>if b=true then te fZ H4 fun y H5=>H5 D=some (.lst ys)∧ys.length<sizeLine∧Pv (i+1) (ys++[y]) fZ (upd H5 D (.lst (ys++[y])))else Pv (i+1) ys fZ H4)
  (hd:∀ys σ H,Pv kvs.length ys σ H→Q (.ref D) H):sM (Ru d o kvs) ls js g tt te σ H1 D Q:=
 oG (n:=kvs.length) Pv h0 (fun i ys σ H hi p=>⟨hl i ys σ H (Nat.le_of_lt hi) p,hi⟩) (fun ys σ H p=>⟨hl _ ys σ H (Nat.le_refl _) p,Nat.le_refl _⟩)
  (fun i ys σ H x H2 hi p y=>by
   obtain⟨rfl,q,hq,rfl⟩:=y;exact hs i q ys σ _ hq p) hd
theorem E2{X:Cx}{cm:Bool}{k:Nat}{x:Str}{C:Addr}{ps:List Str}{l':List V}{sp:Sp}{E:L2.St→XK}{p pos:Pos}(D:mQ X.prog X.w X.K X.mg X.base cm k x C ps l' sp)(hr:eQ cm (k+1) X.A)(hx:Passes (cV X.prog X.w) X E)(hg:Gl X x:=by rfl)(vU:(x==("__debug__":Str))=false:=by decide):
  PE X (.Call (.Name x p) [] [] pos) (AZ C sp l' E DF):=by
 obtain⟨f,fd,ds,ok,M,hm,hb,hd⟩:=D;exact DI M ok hr hg hm hb hd hx vU
end L2
namespace QF
open PySem L2
structure qv(H:Hp)(C x dx e b:Addr)(es bs:List Addr)(f:Nat→Nat→Option Int)(o p:Int)(n m:Nat):Prop where
 ob:H x=some (.ins C dx (gM o p e b))
 he:H e=some (.lst (es.map V.ref))
 te:i7 H es (dC f o p) n m
 hb:H b=some (.lst (bs.map V.ref))
 tb:i7 H bs (Bq f o p) (n+1) (m+1)
theorem qv.keep{H H':Hp}{C x dx e b:Addr}{es bs:List Addr}{f:Nat→Nat→Option Int}{o p:Int}{n m:Nat}(t:qv H C x dx e b es bs f o p n m)(s:ax H H'):qv H' C x dx e b es bs f o p n m:=
 ⟨s _ _ t.ob,s _ _ t.he,t.te.same s,s _ _ t.hb,t.tb.same s⟩
theorem E3(o p:Int)(e b:Addr):(gM o p e b).lookup ("goes_on":Str)=none:=by kernel_rfl
theorem Bx(o p:Int)(e b:Addr):(gM o p e b).lookup ("crossings_before":Str)=none:=by kernel_rfl
theorem IH(o p:Int)(e b:Addr):(gM o p e b).lookup ("is_brought_by":Str)=none:=by kernel_rfl
theorem K7(o p:Int)(e b:Addr):(gM o p e b).lookup ("pair_before":Str)=none:=by kernel_rfl
theorem N0(o p:Int)(e b:Addr):(gM o p e b).lookup ("way_to":Str)=none:=by kernel_rfl
def gN:Option Int→Bool
 |none=>false
 |some b=>decide (0≤b)
def bq(f:Nat→Nat→Option Int)(o p:Int)(i j:Nat):List Pr:=
 (if bx (Bq f o p i (j+1)) o=Bq f o p (i+1) (j+1)then[((i:Int),((j+1:Nat):Int))]else[])++(if bx (Bq f o p (i+1) j) p=Bq f o p (i+1) (j+1)then[(((i+1:Nat):Int),(j:Int))]else[])
def cI(f:Nat→Nat→Option Int)(o p:Int):Nat→Nat→Nat×Nat
 |0,_=>(0,0)
 | _+1,0=>(0,0)
 |i+1,j+1=>if dC f o p i j=Bq f o p (i+1) (j+1)then(i,j)else if bx (Bq f o p i (j+1)) o=Bq f o p (i+1) (j+1)then cI f o p i (j+1)else cI f o p (i+1) j
termination_by i j=>(i,j)
theorem kE(f:Nat→Nat→Option Int)(o p:Int):∀i j,0<i→0<j→(cI f o p i j).1<i∧(cI f o p i j).2<j∨Bq f o p i j=none
 |0,_,h,_=>absurd h Zw
 | _+1,0,_,h=>absurd h Zw
 |i+1,j+1,_,_=>by
  cases hB:Bq f o p (i+1) (j+1)with
  |none=>exact .inr rfl
  |some v=>
   left
   unfold cI;by_cases h1:dC f o p i j=Bq f o p (i+1) (j+1)
   ·rw[Zp h1];exact⟨ZD,ZD⟩
   ·rw[Zm h1];by_cases h2:bx (Bq f o p i (j+1)) o=Bq f o p (i+1) (j+1)
    ·rw[Zp h2];have hn:Bq f o p i (j+1)≠none:=fun z=>by rw[z,hB]at h2;simp[bx]at h2
     have hi:0<i:=by
      cases i with
      |zero=>exact absurd (iG f o p (j+1)) hn
      |succ i=>omega
     rcases kE f o p i (j+1) hi Zw with z|z
     ·exact⟨Zz,z.2⟩
     ·exact absurd z hn
    ·rw[Zm h2];have hn:Bq f o p (i+1) j≠none:=fun z=>by
      have e:Bq f o p (i+1) (j+1)=oK [dC f o p i j,bx (Bq f o p i (j+1)) o,bx (Bq f o p (i+1) j) p]:=by
       rw[Bq];rfl
      rw[z]at e;have:bx none p=(none:Option Int):=rfl;rw[this]at e;have key:∀a b:Option Int,oK [a,b,none]=a∨oK [a,b,none]=b:=fun a b=>by
       cases a<;>cases b<;>simp[oK]
       rename_i x y
       by_cases Aa:x≤y
       ·right;omega
       ·left;omega
      rcases key (dC f o p i j) (bx (Bq f o p i (j+1)) o)with k|k
      ·exact h1 (by rw[e,k])
      ·exact h2 (by rw[e,k])
     have hj:0<j:=by
      cases j with
      |zero=>exact absurd (by unfold Bq;rfl) hn
      |succ j=>omega
     rcases kE f o p (i+1) j Zw hj with z|z
     ·exact⟨z.1,Zz⟩
     ·exact absurd z hn
termination_by i j=>(i,j)
def eG(f:Nat→Nat→Option Int)(o p:Int):Nat→Nat→Nat→List (Nat×Nat)
 |0,i,j=>[(i,j)]
 |k+1,i,j=>if gN (Bq f o p i j)=true then eG f o p k (cI f o p i j).1 (cI f o p i j).2++[(i,j)]else[(i,j)]
def aR(q:Nat×Nat):Pr:=((q.1:Int),(q.2:Int))
inductive qw(C CT:Addr)(vs:List V)(H:Hp)(Q:VK)(u3:XK):Prop
 |mk (x dx w t:Addr) (c:Case) (as:List Addr) (f:Nat→Nat→Option Int) (n m:Nat) (_:vs=[.ref x, .ref w, .ref t]) (_:H x=some (.ins C dx [])) (_:H dx=some (.own x)) (_:H w=some (.lst (as.map V.ref))) (_:i7 H as f n m) (_:yv H CT t c) (_:n≤1000) (_:m≤1000) (_:∀H' e b,SameBut x H H'→H' x=some (.ins C dx (gM c.out c.into e b))→Tab H H' e (dC f c.out c.into) n m→(0<n→Tab H H' b (Bq f c.out c.into) (n+1) (m+1))→Q .cN H'):qw C CT vs H Q u3
inductive wR(C:Addr)(vs:List V)(H:Hp)(Q:VK)(u3:XK):Prop
 |mk (x dx e b:Addr) (es bs:List Addr) (f:Nat→Nat→Option Int) (o p:Int) (n m:Nat) (pr:Addr) (i j:Nat) (_:vs=[.ref x, .ref pr]) (_:qv H C x dx e b es bs f o p n m) (_:H pr=some (.tup [.int i, .int j])) (_:i≤n) (_:j≤m) (_:Q (.bl (gN (Bq f o p i j))) H):wR C vs H Q u3
inductive Ai(C:Addr)(vs:List V)(H:Hp)(Q:VK)(u3:XK):Prop
 |mk (x dx e b:Addr) (es bs:List Addr) (f:Nat→Nat→Option Int) (o p:Int) (n m:Nat) (cr pr:Addr) (i j k l:Nat) (_:vs=[.ref x, .ref cr, .ref pr]) (_:qv H C x dx e b es bs f o p n m) (_:H cr=some (.tup [.int i, .int j])) (_:H pr=some (.tup [.int k, .int l])) (_:i≤n) (_:j≤m) (_:k<n) (_:l<m) (_:Q (.bl (decide (dC f o p k l=Bq f o p i j))) H):Ai C vs H Q u3
inductive s_(C:Addr)(vs:List V)(H:Hp)(Q:VK)(u3:XK):Prop
 |mk (x dx e b:Addr) (es bs:List Addr) (f:Nat→Nat→Option Int) (o p:Int) (n m:Nat) (cr:Addr) (i j:Nat) (_:vs=[.ref x, .ref cr]) (_:qv H C x dx e b es bs f o p n m) (_:H cr=some (.tup [.int ((i+1:Nat):Int), .int ((j+1:Nat):Int)])) (_:i<n) (_:j<m) (_:∀H' r us,ax H H'→H r=none→H' r=some (.lst us)→gI H' us (bq f o p i j)→Q (.ref r) H'):s_ C vs H Q u3
inductive wU(C:Addr)(vs:List V)(H:Hp)(Q:VK)(u3:XK):Prop
 |mk (x dx e b:Addr) (es bs:List Addr) (f:Nat→Nat→Option Int) (o p:Int) (n m:Nat) (pr:Addr) (i j:Nat) (_:vs=[.ref x, .ref pr]) (_:qv H C x dx e b es bs f o p n m) (_:H pr=some (.tup [.int i, .int j])) (_:i≤n) (_:j≤m) (_:Bq f o p i j≠none) (_:∀H' r,ax H H'→H' r=some (.tup (jr (aR (cI f o p i j))))→Q (.ref r) H'):wU C vs H Q u3
inductive Aj(C:Addr)(vs:List V)(H:Hp)(Q:VK)(u3:XK):Prop
 |mk (x dx e b:Addr) (es bs:List Addr) (f:Nat→Nat→Option Int) (o p:Int) (n m:Nat) (pr:Addr) (i j:Nat) (_:vs=[.ref x, .ref pr]) (_:qv H C x dx e b es bs f o p n m) (_:H pr=some (.tup [.int i, .int j])) (_:i<n) (_:j<m) (_:n≤1000) (_:∀H' r us,ax H H'→H r=none→H' r=some (.lst us)→gI H' us ((eG f o p i i j).map aR)→Q (.ref r) H'):Aj C vs H Q u3
theorem WG(a b:Option Int):oK [a,b,none]=a∨oK [a,b,none]=b:=by
 cases a<;>cases b<;>simp[oK]
 rename_i x y
 by_cases Aa:x≤y
 ·right;omega
 ·left;omega
theorem yL{f:Nat→Nat→Option Int}{o p:Int}{i j:Nat}(hB:Bq f o p (i+1) (j+1)≠none)(h1:dC f o p i j≠Bq f o p (i+1) (j+1)):
  ∃i2 j2,(bq f o p i j)[0]?=some (aR (i2+1,j2+1))∧i2≤i∧j2≤j∧i2+j2<i+j∧Bq f o p (i2+1) (j2+1)≠none∧cI f o p (i2+1) (j2+1)=cI f o p (i+1) (j+1):=by
 by_cases h2:bx (Bq f o p i (j+1)) o=Bq f o p (i+1) (j+1)
 ·have hn:Bq f o p i (j+1)≠none:=fun z=>by rw[z]at h2;exact hB h2.symm
  cases i with
  |zero=>exact absurd (iG f o p (j+1)) hn
  |succ i=>
   refine⟨i,j,?_,by lia,by lia,by lia,hn,?_⟩
   ·unfold bq;rw[Zp h2];rfl
   ·conv=>rhs;unfold cI
    rw[Zm h1,Zp h2]
 ·have hn:Bq f o p (i+1) j≠none:=fun z=>by
   have e:Bq f o p (i+1) (j+1)=oK [dC f o p i j,bx (Bq f o p i (j+1)) o,bx (Bq f o p (i+1) j) p]:=by rw[Bq];rfl
   rw[z,show bx none p=(none:Option Int)from rfl]at e;rcases WG (dC f o p i j) (bx (Bq f o p i (j+1)) o)with k|k
   ·exact h1 (by rw[e,k])
   ·exact h2 (by rw[e,k])
  have h3:bx (Bq f o p (i+1) j) p=Bq f o p (i+1) (j+1):=by
   have e:Bq f o p (i+1) (j+1)=oK [dC f o p i j,bx (Bq f o p i (j+1)) o,bx (Bq f o p (i+1) j) p]:=by rw[Bq];rfl
   have key:∀a b c:Option Int,oK [a,b,c]≠a→oK [a,b,c]≠b→c=oK [a,b,c]:=fun a b c=>by
    cases a<;>cases b<;>cases c<;>simp[oK]<;>lia
   rw[e];exact key _ _ _ (fun z=>h1 (by rw[e];exact z.symm)) (fun z=>h2 (by rw[e];exact z.symm))
  cases j with
  |zero=>exact absurd (by unfold Bq;rfl) hn
  |succ j=>
   refine⟨i,j,?_,by lia,by lia,by lia,hn,?_⟩
   ·unfold bq;rw[Zm h2,Zp h3];rfl
   ·conv=>rhs;unfold cI
    rw[Zm h1,Zm h2]
theorem j9{f:Nat→Nat→Option Int}{o p:Int}{i j:Nat}(h:gN (Bq f o p i j)=true):0<i∧0<j∧Bq f o p i j≠none:=by
 have hn:Bq f o p i j≠none:=fun z=>by rw[z]at h;cases h
 refine⟨?_,?_,hn⟩
 ·cases i with
  |zero=>exact absurd (iG f o p j) hn
  |succ i=>omega
 ·cases j with
  |zero=>cases i with
   |zero=>exact absurd (iG f o p 0) hn
   |succ i=>exact absurd (by unfold Bq;rfl) hn
  |succ j=>omega
theorem gQ{f:Nat→Nat→Option Int}{o p:Int}{i j:Nat}(h:¬gN (Bq f o p i j)=true):∀k,eG f o p k i j=[(i,j)]
 |0=>rfl
 |k+1=>by rw[eG,Zm h]
theorem CA(f:Nat→Nat→Option Int)(o p:Int)(i:Nat):∀k k' j,i≤k→i≤k'→eG f o p k i j=eG f o p k' i j:=by
 induction i using Nat.strongRecOn with
 |ind i ih=>
  intro k k' j h h';by_cases hg:gN (Bq f o p i j)=true
  ·obtain⟨a,b,c⟩:=j9 hg;have hl:=(kE f o p i j a b).resolve_right c;obtain⟨k,rfl⟩:∃k1,k=k1+1:=⟨k-1,Zz⟩
   obtain⟨k',rfl⟩:∃k1,k'=k1+1:=⟨k'-1,Zz⟩
   rw[eG,eG,Zp hg,Zp hg,ih _ hl.1 k k' _ (Zz) (Zz)]
  ·rw[gQ hg,gQ hg]
theorem vF{f:Nat→Nat→Option Int}{o p:Int}{i j:Nat}(h:gN (Bq f o p i j)=true):eG f o p i i j=eG f o p (cI f o p i j).1 (cI f o p i j).1 (cI f o p i j).2++[(i,j)]:=by
 obtain⟨a,b,c⟩:=j9 h;have hl:=(kE f o p i j a b).resolve_right c;obtain⟨i,rfl⟩:∃k1,i=k1+1:=⟨i-1,Zz⟩
 rw[eG,Zp h,CA f o p _ i _ _ (Zz) (Nat.le_refl _)]
structure II(K:W.Frag)(C:Addr):Prop where
 cl:vT K C
 worth:b_ K C "worth"
 way:b_ K C "way"
 row:b_ K C "row"
 pairs:b_ K C "pairs"
def mU(w:Int)(a r p:Addr):List (Str×V):=[("worth", .int w),("way", .ref a),("row", .ref r),("pairs", .ref p)]
theorem gc(w:Int)(a r p:Addr):(mU w a r p).lookup ("worth":Str)=some (V.int w):=by kernel_rfl
theorem qx(w:Int)(a r p:Addr):(mU w a r p).lookup ("way":Str)=some (V.ref a):=by kernel_rfl
theorem Ak(w:Int)(a r p:Addr):(mU w a r p).lookup ("row":Str)=some (V.ref r):=by kernel_rfl
theorem ij(w:Int)(a r p:Addr):(mU w a r p).lookup ("pairs":Str)=some (V.ref p):=by kernel_rfl
theorem K8(w:Int)(a r p:Addr):bo "pairs" (.ref p) (bo "row" (.ref r) (bo "way" (.ref a) (bo "worth" (.int w) [])))=mU w a r p:=by kernel_rfl
inductive tf(C:Addr)(vs:List V)(H:Hp)(Q:VK)(u3:XK):Prop
 |mk (x dx a r p:Addr) (w:Int) (_:vs=[.ref x, .int w, .ref a, .ref r, .ref p]) (_:H x=some (.ins C dx [])) (_:Q .cN (upd H x (.ins C dx (mU w a r p)))):tf C vs H Q u3
inductive tm(C:Addr)(vs:List V)(H:Hp)(Q:VK)(u3:XK):Prop
 |mk (x dx a r p:Addr) (w:Int) (us:List V) (ps:List Pr) (_:vs=[.ref x]) (_:H x=some (.ins C dx (mU w a r p))) (_:H p=some (.lst us)) (_:gI H us ps) (_:ps≠[]) (_:∀H' k t,ax H H'→H' k=some (.tup [.int (-w), .ref t])→H' t=some (.tup [.int (la ps).1, .int (la ps).2])→Q (.ref k) H'):tm C vs H Q u3
inductive Al(C CF:Addr)(vs:List V)(H:Hp)(Q:VK)(u3:XK):Prop
 |mk (x dx e b:Addr) (es bs:List Addr) (f:Nat→Nat→Option Int) (o p:Int) (n m:Nat) (w:Int) (pr:Addr) (us:List V) (ps:List (Nat×Nat)) (q0:Nat×Nat) (_:vs=[.ref x, .int w, .ref pr]) (_:qv H C x dx e b es bs f o p n m) (_:H pr=some (.lst us)) (_:gI H us (ps.map aR)) (_:∀q∈ps,q.1<n∧q.2<m) (_:(ps.filter fun q=>decide (dC f o p q.1 q.2=some w))[0]?=some q0) (_:n≤1000) (_:ps.length≤5000)
  (_:∀H' y dy wy rw ik,ax H H'→H y=none→H dy=none→H wy=none→H rw=none→H' y=some (.ins CF dy (mU w wy rw pr))→H' dy=some (.own y)→H' wy=some (.lst ik)→gI H' ik ((eG f o p q0.1 q0.1 q0.2).map aR)→H' rw=some (.lst ((eG f o p q0.1 q0.1 q0.2).map fun q=>bA (dC f o p q.1 q.2)))→Q (.ref y) H'):Al C CF vs H Q u3
theorem By{f:Nat→Nat→Option Int}{o p:Int}{n m:Nat}:∀k i j,i<n→j<m→∀q∈eG f o p k i j,q.1<n∧q.2<m
 |0,i,j,hi,hj,q,hq=>by
  have:q=(i,j):=by simpa[eG]using hq
  subst this;exact⟨hi,hj⟩
 |k+1,i,j,hi,hj,q,hq=>by
  by_cases h:gN (Bq f o p i j)=true
  ·rw[eG,Zp h]at hq;obtain⟨a,b,c⟩:=j9 h;have hl:=(kE f o p i j a b).resolve_right c;rcases List.mem_append.mp hq with z|z
   ·exact By k _ _ (Zz) (Zz) q z
   ·have:q=(i,j):=by simpa using z
    subst this;exact⟨hi,hj⟩
  ·rw[gQ h]at hq;have:q=(i,j):=by simpa using hq
   subst this;exact⟨hi,hj⟩
theorem yM{f:Nat→Nat→Option Int}{o p:Int}:∀k i j,(eG f o p k i j).length≤k+1
 |0,i,j=>by simp[eG]
 |k+1,i,j=>by
  by_cases h:gN (Bq f o p i j)=true
  ·rw[eG,Zp h,List.length_append];have:=yM (f:=f) (o:=o) (p:=p) k (cI f o p i j).1 (cI f o p i j).2;simp;omega
  ·rw[gQ h];simp
end QF
namespace L2
open PySem PySem.Spec PyProof.Rows PySem.W PySem.Calls
section
variable{X:Cx}
inductive E4(K:Frag)(x:V)(y:V)(H:Hp)(Q:VK):Prop
 |mk (p q:Addr) (xs ys:List V) (_:x= .ref p) (_:y= .ref q) (_:Dv K H p xs) (_:Dv K H q ys) (_:xs.all rk=true) (_:ys.all rk=true) (_:Q (.bl (!ur xs ys)) H):E4 K x y H Q
theorem CB(K:Frag)(hu:X.A.units<cLine)(hK:X.K=K:=by rfl):rH X (compareOp .NotEq) (E4 K):=by
 subst hK;intro pins s σ H x y v u Q I rx ry h;obtain⟨p,q,xs,ys,rfl,rfl,hp,hq,f1,f2,k⟩:=h;cases rx;cases ry;obtain⟨its,r,pl,hz⟩:=I.tuple hp;obtain⟨eE,r2,GD,LR⟩:=I.tuple hq;have he:=sW (A:=X.A.in1) (s:=s) r r2 f1 f2;obtain⟨⟨cls,dd,data,sl⟩,ho,hc,n,hd⟩:=id pl;obtain⟨⟨Kb,Eh,data2,xQ⟩,xR,ug,n2,hd2⟩:=id GD;simp only at hc hd ug hd2;subst hc hd ug hd2;refine richCompare_meets_room (op:= .NotEq) ⟨_,ho,rfl⟩ ⟨_,xR,rfl⟩ F.slot_tuple_ne F.entry_tuple_ne (F.args_tuple_ne_2 _ _) (SeqAt.tuple_neAt p q its.toArray eE.toArray n n2 dd Eh sl xQ _) ⟨ho,xR,he,?_⟩ hu;have e:(!((List.range (min its.toArray.size eE.toArray.size)).all (fun j=>v5 (xs.getD j .cN) (ys.getD j .cN))&&its.toArray.size==eE.toArray.size))=!ur xs ys:=by
  rw[←kz,r.length,r2.length];simp
 rw[e];exact⟨(fun x=>nomatch x), .bl (!ur xs ys),H,I,rfl,k⟩
end
end L2
namespace QF
open PySem L2
theorem de{p q:Pr}(h:a_ p=a_ q):p=q:=by
 simp only[a_,List.cons.injEq,Sum.inl.injEq,and_true]at h;exact Prod.ext h.1 h.2
theorem len_sub{α:Type}[DecidableEq α]:∀(l m:List α),l.Nodup→(∀x∈l,x∈m)→l.length≤m.length
 |[],m,_,_=>ZD
 |x::r,m,hn,h=>by
  have Du:=List.nodup_cons.mp hn;have hx:=h x (ZD);have:=len_sub r (m.erase x) Du.2 fun y hy=>(List.mem_erase_of_ne (fun e:y=x=>Du.1 (by rw[←e];exact hy))).mpr (h y (by simp[hy]))
  rw[List.length_erase_of_mem hx]at this;have:=List.length_pos_of_mem hx;simp;omega
def IJ(E:Pr→Pr→Prop)(p:Pr):Pr→Pr→Prop:=fun a b=>E a b∨(a=p∧b=p)
def qy(E:Pr→Pr→Prop)(p q:Pr):Pr→Pr→Prop:=fun a b=>E a b∨((E a p∨E a q)∧(E b p∨E b q))
theorem CC{E:Pr→Pr→Prop}{p q a b:Pr}:qy E p q a b↔qy E q p a b:=by
 unfold qy;rw[or_comm (a:=E a p),or_comm (a:=E b p)]
structure oR(S:Addr→Prop)(H:Hp)(S':Addr→Prop)(H':Hp):Prop where
 grow:∀a,S' a→S a∨H a=none
 keep:∀a o,¬S a→H a=some o→H' a=some o
theorem oR.trans{S S' Pu:Addr→Prop}{H H' Px:Hp}(a:oR S H S' H')(b:oR S' H' Pu Px):oR S H Pu Px:=by
 refine⟨fun x hx=>?_,fun x o hs hx=>b.keep x o (fun z=>?_) (a.keep x o hs hx)⟩
 ·rcases b.grow x hx with h|h
  ·exact a.grow x h
  ·by_cases hs:S x
   ·exact .inl hs
   ·right
    cases e:H x with
    |none=>rfl
    |some o=>rw[a.keep x o hs e]at h;cases h
 ·rcases a.grow x z with h|h
  ·exact hs h
  ·rw[hx]at h;cases h
theorem oR.same{S:Addr→Prop}{H H':Hp}(s:ax H H'):oR S H S H':=⟨fun _ h=> .inl h,fun a o _ h=>s a o h⟩
theorem oR.put{S:Addr→Prop}{H:Hp}{a:Addr}{o:HO}(h:S a):oR S H S (upd H a o):=⟨fun _ h=> .inl h,fun b u hb e=>by rw[ak (fun z:b=a=>hb (by rw[z];exact h))];exact e⟩
structure N1(K:W.Frag)(C:Addr):Prop where
 cl:vT K C
 oS:b_ K C "leads"
 members:b_ K C "members"
def rm(dl dm:Addr):List (Str×V):=[("leads", .ref dl),("members", .ref dm)]
theorem jx(a b:Addr):(rm a b).lookup ("leads":Str)=some (V.ref a):=by kernel_rfl
theorem iV(a b:Addr):(rm a b).lookup ("members":Str)=some (V.ref b):=by kernel_rfl
theorem N2(a b:Addr):bo "members" (.ref b) (bo "leads" (.ref a) [])=rm a b:=by kernel_rfl
theorem N3(a b:Addr):(rm a b).lookup ("has":Str)=none:=by kernel_rfl
theorem E5(a b:Addr):(rm a b).lookup ("take_in":Str)=none:=by kernel_rfl
theorem Bz(a b:Addr):(rm a b).lookup ("unite":Str)=none:=by kernel_rfl
theorem K9(a b:Addr):(rm a b).lookup ("told":Str)=none:=by kernel_rfl
def K_(H:Hp)(v:Option V):Option Pr→Prop
 |none=>v=none
 |some l=>∃t,v=some (.ref t)∧H t=some (.tup (jr l))
def RV(H:Hp)(S:Addr→Prop)(v:Option V):Option (List Pr)→Prop
 |none=>v=none
 |some ms=>∃a us,v=some (.ref a)∧H a=some (.lst us)∧gI H us ms∧S a
theorem K_.cD{H H':Hp}{v:Option V}{o:Option Pr}(h:K_ H v o)(t:dG H H'):K_ H' v o:=by
 cases o with
 |none=>exact h
 |some l=>obtain⟨a,h1,h2⟩:=h;exact⟨a,h1,t _ _ h2⟩
structure Dj(H:Hp)(S:Addr→Prop)(dl dm:Addr)(kl km:List (List Key×V))(ld:Pr→Option Pr)(mm:Pr→Option (List Pr)):Prop where
 hl:H dl=some (.dT kl)
 hm:H dm=some (.dT km)
 sl:S dl
 sm:S dm
 ne:dl≠dm
 lv:∀p,K_ H (bu kl (a_ p)) (ld p)
 mv:∀p,RV H S (bu km (a_ p)) (mm p)
 inj:∀p q a,bu km (a_ p)=some (.ref a)→bu km (a_ q)=some (.ref a)→p=q
 key:∀kv∈km,∃p,kv.1=a_ p
 BB:(km.map (·.1)).Nodup
 ms:∀l ms,mm l=some ms→ms.Nodup∧∀p,p∈ms↔ld p=some l
 ml:∀p l,ld p=some l→∃ms,mm l=some ms
 self:∀l ms,mm l=some ms→ld l=some l
theorem Dj.keep{H H':Hp}{S:Addr→Prop}{dl dm:Addr}{kl km:List (List Key×V)}{ld:Pr→Option Pr}{mm:Pr→Option (List Pr)}(d:Dj H S dl dm kl km ld mm)(h:∀a o,S a→H a=some o→H' a=some o)(t:dG H H'):Dj H' S dl dm kl km ld mm:=by
 refine⟨h _ _ d.sl d.hl,h _ _ d.sm d.hm,d.sl,d.sm,d.ne,fun p=>(d.lv p).cD t,fun p=>?_,d.inj,d.key,d.BB,d.ms,d.ml,d.self⟩;have:=d.mv p;cases e:mm p with
 |none=>rw[e]at this;exact this
 |some ms=>
  rw[e]at this;obtain⟨a,us,h1,h2,h3,h4⟩:=this;exact⟨a,us,h1,h _ _ h4 h2,h3.cD t,h4⟩
theorem Dj.sI{H:Hp}{S:Addr→Prop}{dl dm:Addr}{kl km:List (List Key×V)}{ld:Pr→Option Pr}{mm:Pr→Option (List Pr)}(d:Dj H S dl dm kl km ld mm){ms:List Pr}(hn:ms.Nodup)(h:∀p∈ms,∃l,ld p=some l):ms.length≤kl.length:=by
 have:=len_sub (ms.map a_) (kl.map (·.1)) (List.Pairwise.map _ (fun a b E6 z=>E6 (de z)) hn) fun k hk=>by
  obtain⟨p,hp,rfl⟩:=List.mem_map.mp hk;obtain⟨l,hl⟩:=h p hp;have:=d.lv p;rw[hl]at this;obtain⟨t,h1,_⟩:=this;exact A6 h1
 simpa using this
theorem Dj.take{H H':Hp}{S:Addr→Prop}{dl dm a t:Addr}{kl km:List (List Key×V)}{ld:Pr→Option Pr}{mm:Pr→Option (List Pr)}{p:Pr}(d:Dj H S dl dm kl km ld mm)(hn:ld p=none)(ht:H t=some (.tup (jr p)))(ha:H a=none)
  (h1:H' dl=some (.dT (putK kl (a_ p) (.ref t)))) (h2:H' dm=some (.dT (putK km (a_ p) (.ref a)))) (h3:H' a=some (.lst [.ref t])) (hk:∀b o,b≠dl→b≠dm→H b=some o→H' b=some o):
  Dj H' (fun x=>S x∨x=a) dl dm (putK kl (a_ p) (.ref t)) (putK km (a_ p) (.ref a)) (fun q=>if q=p then some p else ld q) (fun q=>if q=p then some [p]else mm q):=by
 have T:dG H H':=fun b v hb=>hk b _ (fun z=>by rw[z,d.hl]at hb;cases hb) (fun z=>by rw[z,d.hm]at hb;cases hb) hb
 have Uq:mm p=none:=by
  cases e:mm p with
  |none=>rfl
  |some ms=>have:=d.self p ms e;rw[hn]at this;cases this
 have E7:bu km (a_ p)=none:=by have:=d.mv p;rw[Uq]at this;exact this
 have N4:∀q b,bu km (a_ q)=some (.ref b)→b≠a:=fun q b hq z=>by
  have:=d.mv q;cases e:mm q with
  |none=>rw[e]at this;have:bu km (a_ q)=none:=this;rw[this]at hq;cases hq
  |some ms=>
   rw[e]at this;obtain⟨a',us,e1,e2,_⟩:=this;rw[hq]at e1;cases e1;rw[z,ha]at e2;cases e2
 refine⟨h1,h2, .inl d.sl, .inl d.sm,d.ne,fun q=>?_,fun q=>?_,fun q r b hq hr=>?_,fun kv Py=>?_,?_,fun l ms hl=>?_,fun q l hq=>?_,fun l ms hl=>?_⟩
 ·rw[i4];by_cases e:q=p
  ·rw[Zp (by rw[e]),Zp e];exact⟨t,rfl,T _ _ ht⟩
  ·rw[Zm (fun z=>e (de z)),Zm e];exact(d.lv q).cD T
 ·show RV _ _ _ (if q=p then some [p]else mm q);rw[i4];by_cases e:q=p
  ·rw[Zp (by rw[e]),Zp e];exact⟨a,_,rfl,h3,gI.one (T _ _ ht), .inr rfl⟩
  ·rw[Zm (fun z=>e (de z)),Zm e];have:=d.mv q;cases e2:mm q with
   |none=>rw[e2]at this;exact this
   |some ms=>
    rw[e2]at this;obtain⟨b,us,z1,z2,z3,z4⟩:=this;exact⟨b,us,z1,hk b _ (fun z=>by rw[z,d.hl]at z2;cases z2) (fun z=>by rw[z,d.hm]at z2;cases z2) z2,z3.cD T, .inl z4⟩
 ·rw[i4]at hq hr;by_cases e:q=p
  ·by_cases e2:r=p
   ·rw[e,e2]
   ·rw[Zp (by rw[e])]at hq;rw[Zm (fun z=>e2 (de z))]at hr;cases hq;exact absurd rfl (N4 r _ hr)
  ·rw[Zm (fun z=>e (de z))]at hq;by_cases e2:r=p
   ·rw[Zp (by rw[e2])]at hr;cases hr;exact absurd rfl (N4 q _ hq)
   ·rw[Zm (fun z=>e2 (de z))]at hr;exact d.inj q r b hq hr
 ·rw[sE _ E7]at Py;rcases List.mem_append.mp Py with z|z
  ·exact d.key kv z
  ·exact⟨p,by rw[List.mem_singleton.mp z]⟩
 ·rw[sE _ E7,List.map_append];refine List.nodup_append.mpr ⟨d.BB,ZD,fun x hx y hy e=>?_⟩;have hy:y=a_ p:=by simpa using hy
  rw[e,hy]at hx;exact yp E7 hx
 ·have hl:(if l=p then some [p]else mm l)=some ms:=hl;by_cases e:l=p
  ·rw[Zp e]at hl;cases hl;refine⟨ZD,fun q=>?_⟩;rw[List.mem_singleton];show q=p↔(if q=p then some p else ld q)=some l;by_cases e2:q=p
   ·rw[Zp e2,e];simp[e2]
   ·rw[Zm e2];refine⟨fun z=>absurd z e2,fun z=>?_⟩;obtain⟨ms,Dk⟩:=d.ml q l z;rw[e,Uq]at Dk;cases Dk
  ·rw[Zm e]at hl;obtain⟨z1,z2⟩:=d.ms l ms hl;refine⟨z1,fun q=>?_⟩;rw[z2];show ld q=some l↔(if q=p then some p else ld q)=some l;by_cases e2:q=p
   ·rw[Zp e2,e2,hn];refine⟨fun z=>(by cases z),fun z=>absurd (Zt z).symm e⟩
   ·rw[Zm e2]
 ·have hq:(if q=p then some p else ld q)=some l:=hq;show ∃ms,(if l=p then some [p]else mm l)=some ms;by_cases e:l=p
  ·exact⟨[p],Zp e⟩
  ·rw[Zm e];by_cases e2:q=p
   ·rw[Zp e2]at hq;exact absurd (Zt hq).symm e
   ·rw[Zm e2]at hq;exact d.ml q l hq
 ·have hl:(if l=p then some [p]else mm l)=some ms:=hl;show(if l=p then some p else ld l)=some l;by_cases e:l=p
  ·rw[Zp e,e]
  ·rw[Zm e]at hl⊢;exact d.self l ms hl
theorem BC{κ:Type}[DecidableEq κ]{k:κ}{v:V}:∀{kvs:List (κ×V)}{i:Nat},(kvs.map (·.1)).Nodup→kvs[i]?=some (k,v)→bu kvs k=some v
 |[],i,_,h=>by simp at h
 |p::r,0,_,h=>by
  have h:p=(k,v):=by simpa using h
  subst h;exact cG rfl
 |p::r,i+1,hn,h=>by
  have Du:=List.nodup_cons.mp (show(p.1::r.map (·.1)).Nodup from hn);have h:r[i]?=some (k,v):=by simpa using h
  rw[cz (fun e=>Du.1 (by rw[e];exact List.mem_map.mpr ⟨_,Zk h,rfl⟩))];exact BC Du.2 h
theorem yN{κ:Type}[DecidableEq κ]{k:κ}{v:V}:∀{kvs:List (κ×V)},bu kvs k=some v→∃i:Nat,kvs[i]?=some (k,v)
 |[],h=>by cases h
 |p::r,h=>by
  by_cases e:p.1=k
  ·rw[cG e]at h;exact⟨0,by simp;exact Prod.ext e (Zt h)⟩
  ·rw[cz e]at h;obtain⟨i,hi⟩:=yN h;exact⟨i+1,by simpa using hi⟩
theorem mj{κ:Type}[DecidableEq κ](k j:κ):∀kvs:List (κ×V),bu (iZ kvs k) j=if j=k then none else bu kvs j
 |[]=>by simp[iZ,bu]
 |p::r=>by
  have ih:=mj k j r;unfold iZ at ih⊢;rw[List.filter_cons];by_cases e:p.1=k
  ·rw[Zm (by simpa using e),ih];by_cases e2:j=k
   ·rw[Zp e2,Zp e2]
   ·rw[Zm e2,Zm e2,cz (fun z=>e2 (z.symm.trans e))]
  ·rw[Zp (by simpa using e)];by_cases e2:p.1=j
   ·rw[cG e2,Zm (fun z=>e (e2.trans z)),cG e2]
   ·rw[cz e2,ih,cz e2]
theorem Dj.N5{H H':Hp}{S:Addr→Prop}{dl dm al tl:Addr}{kl uv km:List (List Key×V)}{ld:Pr→Option Pr}{mm:Pr→Option (List Pr)}{l g:Pr}{m1 m2:List Pr}{kZ ik:List V}(d:Dj H S dl dm kl km ld mm)(BD:l≠g)(h1:mm l=some m1)(h2:mm g=some m2)(BE:bu km (a_ l)=some (.ref al))(P1:gI H kZ m1)(P2:gI H ik m2)(QP:H al=some (.lst kZ))(yO:H tl=some (.tup (jr l)))
  (RW:∀r,bu uv (a_ r)=if r∈m2 then some (.ref tl)else bu kl (a_ r)) (e1:H' dl=some (.dT uv)) (e2:H' dm=some (.dT (iZ km (a_ g)))) (e3:H' al=some (.lst (kZ++ik))) (hk:∀b o,b≠dl→b≠dm→b≠al→H b=some o→H' b=some o):
  Dj H' S dl dm uv (iZ km (a_ g)) (fun r=>if r∈m2 then some l else ld r) (fun r=>if r=g then none else if r=l then some (m1++m2)else mm r):=by
 have T:dG H H':=fun b v hb=>hk b _ (fun z=>by rw[z,d.hl]at hb;cases hb) (fun z=>by rw[z,d.hm]at hb;cases hb) (fun z=>by rw[z,QP]at hb;cases hb) hb
 obtain⟨n1,q1⟩:=d.ms l m1 h1;obtain⟨n2,q2⟩:=d.ms g m2 h2;refine⟨e1,e2,d.sl,d.sm,d.ne,fun r=>?_,fun r=>?_,fun p q a hp hq=>?_,fun kv Py=>d.key kv (List.mem_filter.mp Py).1,d.BB.sublist (List.filter_sublist.map _),fun x ms hx=>?_,fun p x hp=>?_,fun x ms hx=>?_⟩
 ·show K_ H' _ (if r∈m2 then some l else ld r);rw[RW];by_cases e:r∈m2
  ·rw[Zp e,Zp e];exact⟨tl,rfl,T _ _ yO⟩
  ·rw[Zm e,Zm e];exact(d.lv r).cD T
 ·show RV H' S _ (if r=g then none else if r=l then some (m1++m2)else mm r);rw[mj];by_cases e:r=g
  ·rw[Zp (by rw[e]),Zp e];rfl
  ·rw[Zm (fun z=>e (de z)),Zm e];by_cases e4:r=l
   ·rw[Zp e4,e4,BE];have:=d.mv l;rw[h1]at this;obtain⟨a,us,z1,_,_,z4⟩:=this;rw[BE]at z1;cases z1;exact⟨al,_,rfl,e3,(P1.append P2).cD T,z4⟩
   ·rw[Zm e4];have:=d.mv r;cases e5:mm r with
    |none=>rw[e5]at this;exact this
    |some ms=>
     rw[e5]at this;obtain⟨a,us,z1,z2,z3,z4⟩:=this;exact⟨a,us,z1,hk a _ (fun z=>by rw[z,d.hl]at z2;cases z2) (fun z=>by rw[z,d.hm]at z2;cases z2) (fun z=>e4 (d.inj r l al (by rw[z1,z]) BE)) z2,z3.cD T,z4⟩
 ·rw[mj]at hp hq;by_cases e:p=g
  ·rw[Zp (by rw[e])]at hp;cases hp
  ·by_cases e4:q=g
   ·rw[Zp (by rw[e4])]at hq;cases hq
   ·rw[Zm (fun z=>e (de z))]at hp;rw[Zm (fun z=>e4 (de z))]at hq;exact d.inj p q a hp hq
 ·have hx:(if x=g then none else if x=l then some (m1++m2)else mm x)=some ms:=hx;by_cases e:x=g
  ·rw[Zp e]at hx;cases hx
  ·rw[Zm e]at hx;by_cases e4:x=l
   ·rw[Zp e4]at hx;cases hx;refine⟨List.nodup_append.mpr ⟨n1,n2,fun a ha b hb z=>?_⟩,fun p=>?_⟩
    ·have ha:=(q1 a).mp ha;have hb:=(q2 b).mp hb;rw[z,hb]at ha;exact BD (Zt ha).symm
    ·rw[List.mem_append];show p∈m1∨p∈m2↔(if p∈m2 then some l else ld p)=some x;rw[e4];by_cases e5:p∈m2
     ·rw[Zp e5];simp[e5]
     ·rw[Zm e5,←q1];simp[e5]
   ·rw[Zm e4]at hx;obtain⟨z1,z2⟩:=d.ms x ms hx;refine⟨z1,fun p=>?_⟩;rw[z2];show ld p=some x↔(if p∈m2 then some l else ld p)=some x;by_cases e5:p∈m2
    ·rw[Zp e5,(q2 p).mp e5];exact⟨fun z=>absurd (Zt z).symm e,fun z=>absurd (Zt z).symm e4⟩
    ·rw[Zm e5]
 ·have hp:(if p∈m2 then some l else ld p)=some x:=hp;show ∃ms,(if x=g then none else if x=l then some (m1++m2)else mm x)=some ms;by_cases e5:p∈m2
  ·rw[Zp e5]at hp;cases hp;exact⟨m1++m2,by rw[Zm BD,if_pos rfl]⟩
  ·rw[Zm e5]at hp;have hg:x≠g:=fun z=>e5 ((q2 p).mpr (by rw[hp,z]))
   by_cases e4:x=l
   ·exact⟨m1++m2,by rw[Zm hg,Zp e4]⟩
   ·obtain⟨ms,Dk⟩:=d.ml p x hp;exact⟨ms,by rw[Zm hg,Zm e4];exact Dk⟩
 ·have hx:(if x=g then none else if x=l then some (m1++m2)else mm x)=some ms:=hx;show(if x∈m2 then some l else ld x)=some x;by_cases e:x=g
  ·rw[Zp e]at hx;cases hx
  ·rw[Zm e]at hx;have Ur:ld x=some x:=by
    by_cases e4:x=l
    ·rw[e4];exact d.self l m1 h1
    ·rw[Zm e4]at hx;exact d.self x ms hx
   have:x∉m2:=fun z=>by
    have:=(q2 x).mp z;rw[Ur]at this;exact e (Zt this)
   rw[Zm this,Ur]
theorem K'{ld:Pr→Option Pr}{l g p q:Pr}{m2:List Pr}(BD:l≠g)(hp:ld p=some l)(hq:ld q=some g)(q2:∀r,r∈m2↔ld r=some g){E:Pr→Pr→Prop}(hE:∀a b,E a b↔∃x,ld a=some x∧ld b=some x)(a b:Pr):
  qy E p q a b↔∃x,(if a∈m2 then some l else ld a)=some x∧(if b∈m2 then some l else ld b)=some x:=by
 have A:∀c,(E c p∨E c q)↔(if c∈m2 then some l else ld c)=some l:=fun c=>by
  rw[hE,hE,hp,hq];by_cases e:c∈m2
  ·rw[Zp e,(q2 c).mp e];simp
  ·rw[Zm e];have:ld c≠some g:=fun z=>e ((q2 c).mpr z)
   constructor
   ·rintro(⟨x,h1,h2⟩|⟨x,h1,h2⟩)
    ·cases h2;exact h1
    ·cases h2;exact absurd h1 this
   ·exact fun z=> .inl ⟨l,z,rfl⟩
 unfold qy;rw[A,A,hE];constructor
 ·rintro(⟨x,h1,h2⟩|⟨h1,h2⟩)
  ·by_cases e:x=g
   ·subst e;exact⟨l,by rw[Zp ((q2 a).mpr h1)],by rw[Zp ((q2 b).mpr h2)]⟩
   ·exact⟨x,by rw[Zm (fun z=>e (by have:=(q2 a).mp z;rw[h1]at this;exact Zt this))];exact h1,by rw[Zm (fun z=>e (by have:=(q2 b).mp z;rw[h2]at this;exact Zt this))];exact h2⟩
  ·exact⟨l,h1,h2⟩
 ·rintro⟨x,h1,h2⟩;by_cases e:x=l
  ·subst e;exact .inr ⟨h1,h2⟩
  ·left
   refine⟨x,?_,?_⟩
   ·by_cases e2:a∈m2
    ·rw[Zp e2]at h1;exact absurd (Zt h1).symm e
    ·rw[Zm e2]at h1;exact h1
   ·by_cases e2:b∈m2
    ·rw[Zp e2]at h2;exact absurd (Zt h2).symm e
    ·rw[Zm e2]at h2;exact h2
def jR(H:Hp)(C g:Addr)(S:Addr→Prop)(E:Pr→Pr→Prop)(B:Nat):Prop:=
 ∃dg dl dm kl km ld mm,H g=some (.ins C dg (rm dl dm))∧¬S g∧Dj H S dl dm kl km ld mm∧(∀a b,E a b↔∃l,ld a=some l∧ld b=some l)∧kl.length≤B∧km.length≤B
theorem jR.keep{H H':Hp}{C g:Addr}{S:Addr→Prop}{E:Pr→Pr→Prop}{B:Nat}(G:jR H C g S E B)(h:∀a o,S a→H a=some o→H' a=some o)(t:dG H H')(hg:∀o,H g=some o→H' g=some o):jR H' C g S E B:=by
 obtain⟨dg,dl,dm,kl,km,ld,mm,a1,a2,a3,a4⟩:=G;exact⟨dg,dl,dm,kl,km,ld,mm,hg _ a1,a2,a3.keep h t,a4⟩
theorem jR.same{H H':Hp}{C g:Addr}{S:Addr→Prop}{E:Pr→Pr→Prop}{B:Nat}(G:jR H C g S E B)(s:ax H H'):jR H' C g S E B:=G.keep (fun a o _ h=>s a o h) (dG.same s) (fun o h=>s _ _ h)
theorem jR.iff{H:Hp}{C g:Addr}{S:Addr→Prop}{E E':Pr→Pr→Prop}{B B':Nat}(G:jR H C g S E B)(h:∀a b,E' a b↔E a b)(hB:B≤B'):jR H C g S E' B':=by
 obtain⟨dg,dl,dm,kl,km,ld,mm,a1,a2,a3,a4,a5,a6⟩:=G;exact⟨dg,dl,dm,kl,km,ld,mm,a1,a2,a3,fun a b=>(h a b).trans (a4 a b),Zz,Zz⟩
structure Told(E:Pr→Pr→Prop)(gs:List (List Pr)):Prop where
 qu:∀ps∈gs,ps.Pairwise fun p q=>jw p q=true
 ne:∀ps∈gs,ps≠[]
 cls:∀ps∈gs,∀a∈ps,∀b,b∈ps↔E a b
 all:∀a,E a a→∃ps∈gs,a∈ps
 apart:gs.Pairwise fun ps qs=>∀a∈ps,a∉qs
inductive tq(C:Addr)(vs:List V)(H:Hp)(Q:VK)(u3:XK):Prop
 |mk (x dx:Addr) (_:vs=[.ref x]) (_:H x=some (.ins C dx [])) (_:∀H' S,SameBut x H H'→(∀a,S a→H a=none)→jR H' C x S (fun _ _=>False) 0→Q .cN H'):tq C vs H Q u3
inductive Am(C:Addr)(vs:List V)(H:Hp)(Q:VK)(u3:XK):Prop
 |mk (x t:Addr) (p:Pr) (S:Addr→Prop) (E:Pr→Pr→Prop) (B:Nat) (_:vs=[.ref x, .ref t]) (_:jR H C x S E B) (_:H t=some (.tup (jr p))) (_:∀b:Bool,(b=true↔E p p)→Q (.bl b) H):Am C vs H Q u3
inductive wV(C:Addr)(vs:List V)(H:Hp)(Q:VK)(u3:XK):Prop
 |mk (x t:Addr) (p:Pr) (S:Addr→Prop) (E:Pr→Pr→Prop) (B:Nat) (_:vs=[.ref x, .ref t]) (_:jR H C x S E B) (_:H t=some (.tup (jr p))) (_:B≤10000) (_:∀H' S',oR S H S' H'→jR H' C x S' (IJ E p) (B+1)→Q .cN H'):wV C vs H Q u3
inductive tw(C:Addr)(vs:List V)(H:Hp)(Q:VK)(u3:XK):Prop
 |mk (x t u:Addr) (p q:Pr) (S:Addr→Prop) (E:Pr→Pr→Prop) (B:Nat) (_:vs=[.ref x, .ref t, .ref u]) (_:jR H C x S E B) (_:H t=some (.tup (jr p))) (_:H u=some (.tup (jr q))) (_:E p p) (_:E q q) (_:B≤10000) (_:∀H',oR S H S H'→jR H' C x S (qy E p q) B→Q .cN H'):tw C vs H Q u3
inductive wX(C:Addr)(vs:List V)(H:Hp)(Q:VK)(u3:XK):Prop
 |mk (x:Addr) (S:Addr→Prop) (E:Pr→Pr→Prop) (B:Nat) (_:vs=[.ref x]) (_:jR H C x S E B) (_:B<10000) (_:∀H' r us gs,oR S H S H'→H r=none→H' r=some (.lst us)→f' H' us gs→(∀(k:Nat) a,us[k]?=some (.ref a)→H a=none)→Told E gs→Q (.ref r) H'):wX C vs H Q u3
theorem An(g:Pr→Option Int)(o i:Int){as:List Pr}(eR:as≠[])(q:Pr)(bs:List Pr):vl g o i (as++q::bs)=vl g o i as-gp o i (lstP as) q+vl g o i (q::bs):=by
 rw[wK,oN g o i eR];omega
theorem Wy.app{g:Pr→Option Int}{as:List Pr}{q:Pr}{bs:List Pr}(a:Wy g as)(b:Wy g (q::bs))(s:Z0 (lstP as) q):Wy g (as++q::bs):=by
 refine⟨ZD,fun x hx=>?_,List.pairwise_append.mpr ⟨a.up,b.up,fun x hx y hy=>?_⟩⟩
 ·rcases List.mem_append.mp hx with h|h
  ·exact a.ok x h
  ·exact b.ok x h
 ·have h1:Z0 x q:=by
   rcases pw_lst a.up hx with e|e
   ·rw[e];exact s
   ·exact qp e s
  rcases List.mem_cons.mp hy with e|e
  ·rw[e];exact h1
  ·exact qp h1 ((List.pairwise_cons.mp b.up).1 y e)
theorem Wy.left{g:Pr→Option Int}{as bs:List Pr}(w:Wy g (as++bs))(h:as≠[]):Wy g as:=⟨h,fun x hx=>w.ok x (List.mem_append_left _ hx),(List.pairwise_append.mp w.up).1⟩
theorem Wy.right{g:Pr→Option Int}{as bs:List Pr}(w:Wy g (as++bs))(h:bs≠[]):Wy g bs:=⟨h,fun x hx=>w.ok x (List.mem_append_right _ hx),(List.pairwise_append.mp w.up).2.1⟩
section
variable(f:Nat→Nat→Option Int)(o p W:Int)
def BW(ps:List Pr):Prop:=Wy (lf f) ps∧vl (lf f) o p ps=W
def dQ:Prop:=∀ps,Wy (lf f) ps→vl (lf f) o p ps≤W
inductive gL:Pr→Pr→Prop
 |way {a b:Pr} (ps:List Pr) (_:BW f o p W ps) (_:a∈ps) (_:b∈ps):gL a b
 |tr {a b c:Pr} (_:gL a b) (_:gL b c):gL a c
def uw(as:List Pr)(x y:Int):Int:=vl (lf f) o p as-(o*(x-1-(lstP as).1)+p*(y-1-(lstP as).2))
def N6(q:Pr)(bs:List Pr)(x y:Int):Int:=vl (lf f) o p (q::bs)-(o*(q.1-x)+p*(q.2-y))
def Over(x y:Int)(r:Pr):Prop:=∃as q bs,Wy (lf f) as∧Wy (lf f) (q::bs)∧(lstP as).1<x∧(lstP as).2<y∧x≤q.1∧y≤q.2∧vl (lf f) o p (as++q::bs)=W∧r∈q::bs
end
section
variable{f:Nat→Nat→Option Int}{o p W:Int}
theorem gL.symm{a b:Pr}(h:gL f o p W a b):gL f o p W b a:=by
 induction h with
 |way ps h1 h2 h3=>exact .way ps h1 h3 h2
 |tr _ _ i1 i2=>exact .tr i2 i1
theorem gL.left{a b:Pr}(h:gL f o p W a b):gL f o p W a a:= .tr h h.symm
theorem gL.on{a b:Pr}(h:gL f o p W a b):∃ps,BW f o p W ps∧a∈ps:=by
 induction h with
 |way ps h1 h2 h3=>exact⟨ps,h1,h2⟩
 |tr _ _ i1 _=>exact i1
theorem ny{as:List Pr}{q:Pr}{bs:List Pr}(eR:as≠[])(x y:Int):vl (lf f) o p (as++q::bs)=uw f o p as x y+N6 f o p q bs x y:=by
 rw[An _ _ _ eR];unfold uw N6 gp;have e1:q.1-(lstP as).1-1=(x-1-(lstP as).1)+(q.1-x):=Zz;have e2:q.2-(lstP as).2-1=(y-1-(lstP as).2)+(q.2-y):=Zz;rw[e1,e2,Int.mul_add,Int.mul_add];omega
theorem mn(T:dQ f o p W){as xT:List Pr}{q:Pr}{bs:List Pr}{x y:Int}(a:Wy (lf f) as)(b:Wy (lf f) (q::bs))(h3:x≤q.1)(h4:y≤q.2)(hW:vl (lf f) o p (as++q::bs)=W)
  (a':Wy (lf f) xT) (l1:(lstP xT).1<x) (l2:(lstP xT).2<y) (hb:uw f o p as x y≤uw f o p xT x y):BW f o p W (xT++q::bs):=by
 have w:=a'.app b ⟨Zz,Zz⟩;refine⟨w,?_⟩;have:=T _ w;rw[ny a'.ne x y]at this⊢;rw[ny a.ne x y]at hW;omega
theorem wY{as:List Pr}{i j:Nat}(a:Wy (lf f) as)(l1:(lstP as).1<(i:Int))(l2:(lstP as).2<(j:Int)):∃b,Bq f o p i j=some b∧uw f o p as i j≤b:=by
 have m:=fY f o p i j;cases e:Bq f o p i j with
 |none=>rw[e]at m;exact absurd ⟨as,a,l1,l2,rfl⟩ (m _)
 |some b=>rw[e]at m;exact⟨b,rfl,m.2 _ ⟨as,a,l1,l2,rfl⟩⟩
theorem wZ{i j:Nat}{b:Int}(e:Bq f o p i j=some b):∃as,Wy (lf f) as∧(lstP as).1<(i:Int)∧(lstP as).2<(j:Int)∧uw f o p as i j=b:=by
 have m:=fY f o p i j;rw[e]at m;obtain⟨as,h1,h2,h3,h4⟩:=m.1;exact⟨as,h1,h2,h3,h4.symm⟩
theorem mq{i j:Nat}{b:Int}(e:dC f o p i j=some b):∃as,Wy (lf f) as∧lstP as=aR (i,j)∧vl (lf f) o p as=b:=by
 have m:=sY f o p i j;rw[e]at m;obtain⟨as,h1,h2,h3⟩:=m.1;exact⟨as,h1,h2,h3.symm⟩
theorem w6{as:List Pr}{i j:Nat}(a:Wy (lf f) as)(l:lstP as=aR (i,j)):∃b,dC f o p i j=some b∧vl (lf f) o p as≤b:=by
 have m:=sY f o p i j;cases e:dC f o p i j with
 |none=>rw[e]at m;exact absurd ⟨as,a,l,rfl⟩ (m _)
 |some b=>rw[e]at m;exact⟨b,rfl,m.2 _ ⟨as,a,l,rfl⟩⟩
theorem E8{i j:Nat}(e:dC f o p i j=some W):gL f o p W (aR (i,j)) (aR (i,j)):=by
 obtain⟨as,h1,h2,h3⟩:=mq e;have:aR (i,j)∈as:=by rw[←h2];exact c_ h1.ne
 exact .way as ⟨h1,h3⟩ this this
theorem CD(T:dQ f o p W){i j:Nat}{r:Pr}(h:Over f o p W ((i+1:Nat):Int) ((j+1:Nat):Int) r)(e:dC f o p i j=Bq f o p (i+1) (j+1)):gL f o p W (aR (i,j)) r:=by
 obtain⟨as,q,bs,a,b,l1,l2,l3,l4,hW,hr⟩:=h;obtain⟨v,hv,hle⟩:=wY (o:=o) (p:=p) a l1 l2;rw[hv]at e;obtain⟨xT,a',k1,k2⟩:=mq e;have hb:uw f o p xT ((i+1:Nat):Int) ((j+1:Nat):Int)=v:=by
  unfold uw;rw[k1,k2];have e1:((i+1:Nat):Int)-1-(aR (i,j)).1=0:=by show((i+1:Nat):Int)-1-(i:Int)=0;omega
  have e2:((j+1:Nat):Int)-1-(aR (i,j)).2=0:=by show((j+1:Nat):Int)-1-(j:Int)=0;omega
  rw[e1,e2,Int.mul_zero,Int.mul_zero];omega
 have:=mn T a b l3 l4 hW a' (by rw[k1];simp[aR];omega) (by rw[k1];simp[aR];omega) (by rw[hb];exact hle);refine .way _ this (List.mem_append_left _ ?_) (List.mem_append_right _ hr);rw[←k1];exact c_ a'.ne
theorem rp(T:dQ f o p W){i j x y:Nat}{r:Pr}{c:Int}(h:Over f o p W ((i+1:Nat):Int) ((j+1:Nat):Int) r)(hx:x≤i+1)(hy:y≤j+1)(hc:c=o*((i+1:Nat)-x:Int)+p*((j+1:Nat)-y:Int))(e:bx (Bq f o p x y) c=Bq f o p (i+1) (j+1)):Over f o p W (x:Int) (y:Int) r:=by
 obtain⟨as,q,bs,a,b,l1,l2,l3,l4,hW,hr⟩:=h;obtain⟨v,hv,hle⟩:=wY (o:=o) (p:=p) a l1 l2;rw[hv]at e;cases e2:Bq f o p x y with
 |none=>rw[e2]at e;cases e
 |some v2=>
  rw[e2]at e;have e:v2-c=v:=by simpa[bx]using e
  obtain⟨xT,a',k1,k2,k3⟩:=wZ e2;have hb:uw f o p xT ((i+1:Nat):Int) ((j+1:Nat):Int)=v:=by
   unfold uw at k3⊢;have e1:((i+1:Nat):Int)-1-(lstP xT).1=((x:Int)-1-(lstP xT).1)+((i+1:Nat)-x:Int):=by lia
   have e2:((j+1:Nat):Int)-1-(lstP xT).2=((y:Int)-1-(lstP xT).2)+((j+1:Nat)-y:Int):=by lia
   rw[e1,e2,Int.mul_add,Int.mul_add]
   lia
  have:=mn T a b l3 l4 hW a' Zx (by lia) (by rw[hb];exact hle);exact⟨xT,q,bs,a',b,k1,k2,by lia,by lia,this.2,hr⟩
theorem Hd(T:dQ f o p W){i j:Nat}(h:gL f o p W (aR (i,j)) (aR (i,j)))(g:gN (Bq f o p i j)=true):Over f o p W (i:Int) (j:Int) (aR (i,j)):=by
 obtain⟨ws,⟨hw,hW⟩,hm⟩:=h.on;obtain⟨u,v,rfl⟩:=List.append_of_mem hm;cases e:Bq f o p i j with
 |none=>rw[e]at g;cases g
 |some b=>
  rw[e]at g;have g:0≤b:=by simpa[gN]using g
  obtain⟨as,a,k1,k2,k3⟩:=wZ e;have hr:Wy (lf f) (aR (i,j)::v):=hw.right Zu;have ws:=a.app hr ⟨k1,k2⟩;have hle:=T _ ws;have cv:=ny (f:=f) (o:=o) (p:=p) (q:=aR (i,j)) (bs:=v) a.ne (i:Int) (j:Int);have ha:N6 f o p (aR (i,j)) v (i:Int) (j:Int)=vl (lf f) o p (aR (i,j)::v):=by
   unfold N6;have e1:(aR (i,j)).1-(i:Int)=0:=by simp[aR]
   have e2:(aR (i,j)).2-(j:Int)=0:=by simp[aR]
   rw[e1,e2,Int.mul_zero,Int.mul_zero];omega
  have Yz:W≤b+vl (lf f) o p (aR (i,j)::v):=by
   by_cases hu:u=[]
   ·subst hu;simp only[List.nil_append]at hW;omega
   ·have cu:=ny (f:=f) (o:=o) (p:=p) (q:=aR (i,j)) (bs:=v) hu (i:Int) (j:Int);have Pz:Wy (lf f) u:=hw.left hu;have hs:Z0 (lstP u) (aR (i,j)):=(List.pairwise_append.mp hw.up).2.2 _ (c_ hu) _ (ZD);obtain⟨b2,w8,WH⟩:=wY (o:=o) (p:=p) Pz (i:=i) (j:=j) hs.1 hs.2;rw[e]at w8;cases w8;omega
  exact⟨as,aR (i,j),v,a,hr,k1,k2,by simp[aR],by simp[aR],Zz,ZD⟩
theorem over_over(T:dQ f o p W){x y:Int}{r r':Pr}(h:Over f o p W x y r)(h':Over f o p W x y r'):gL f o p W r r':=by
 obtain⟨as,q,bs,a,b,l1,l2,l3,l4,hW,hr⟩:=h;obtain⟨xT,q',WI,a',b',k1,k2,k3,k4,Us,Lb⟩:=h';have w1:BW f o p W (as++q::bs):=⟨a.app b ⟨Zz,Zz⟩,hW⟩
 have w2:BW f o p W (xT++q'::WI):=⟨a'.app b' ⟨Zz,Zz⟩,Us⟩
 by_cases hb:uw f o p as x y≤uw f o p xT x y
 ·have:=mn T a b l3 l4 hW a' k1 k2 hb;exact .tr (.way (b:=lstP xT) _ this (List.mem_append_right _ hr) (List.mem_append_left _ (c_ a'.ne))) (.way _ w2 (List.mem_append_left _ (c_ a'.ne)) (List.mem_append_right _ Lb))
 ·have:=mn T a' b' k3 k4 Us a l1 l2 Zw;exact .tr (.way (b:=lstP as) _ w1 (List.mem_append_right _ hr) (List.mem_append_left _ (c_ a.ne))) (.way _ this (List.mem_append_left _ (c_ a.ne)) (List.mem_append_right _ Lb))
theorem between(T:dQ f o p W){u v:List Pr}{q r:Nat×Nat}(w:BW f o p W (u++aR q::aR r::v)):
  (∀x y:Nat,q.1<x→q.2<y→x≤r.1→y≤r.2→Bq f o p x y=some (uw f o p (u++[aR q]) x y))∧dC f o p q.1 q.2=some (vl (lf f) o p (u++[aR q]))∧0≤uw f o p (u++[aR q]) r.1 r.2:=by
 obtain⟨w,hW⟩:=w;have e:u++aR q::aR r::v=(u++[aR q])++aR r::v:=ZD;rw[e]at w hW;have hl:Wy (lf f) (u++[aR q]):=w.left Zu;have hr:Wy (lf f) (aR r::v):=w.right Zu;have ls:lstP (u++[aR q])=aR q:=dH;have u9:Z0 (aR q) (aR r):=by
  have:=(List.pairwise_append.mp w.up).2.2 _ (c_ hl.ne) (aR r) (ZD);rw[ls]at this;exact this
 refine⟨fun x y h1 h2 h3 h4=>?_,?_,?_⟩
 ·have c1:(lstP (u++[aR q])).1<(x:Int):=by rw[ls];simp[aR];omega
  have c2:(lstP (u++[aR q])).2<(y:Int):=by rw[ls];simp[aR];omega
  obtain⟨b,hb,hle⟩:=wY (o:=o) (p:=p) hl c1 c2;rw[hb]
  congr 1
  obtain⟨as,a,k1,k2,k3⟩:=wZ hb;have wa:=a.app hr ⟨by simp[aR];omega,by simp[aR];omega⟩;have:=T _ wa;rw[ny a.ne (x:Int) (y:Int)]at this;rw[ny hl.ne (x:Int) (y:Int)]at hW;omega
 ·obtain⟨b,hb,hle⟩:=w6 (o:=o) (p:=p) hl (i:=q.1) (j:=q.2) ls;rw[hb]
  congr 1
  obtain⟨as,a,k1,k2⟩:=mq hb;have wa:=a.app hr (by rw[k1];exact u9);have:=T _ wa;rw[An _ _ _ a.ne,k1,show aR (q.1,q.2)=aR q from rfl]at this;rw[An _ _ _ hl.ne,ls]at hW;omega
 ·have:=T _ hr;rw[ny hl.ne (r.1:Int) (r.2:Int)]at hW;unfold N6 at hW;have e1:(aR r).1-(r.1:Int)=0:=by simp[aR]
  have e2:(aR r).2-(r.2:Int)=0:=by simp[aR]
  rw[e1,e2,Int.mul_zero,Int.mul_zero]at hW;omega
end
abbrev GS:=(Pr→Pr→Prop)×(Pr→Option Pr)
def yP(s:GS)(c r:Pr):GS:=
 match s.2 c with
 |some r0=>(qy s.1 r0 r,s.2)
 |none=>(s.1,fun x=>if x=c then some r else s.2 x)
section
variable(f:Nat→Nat→Option Int)(o p W:Int)
def IK(i j:Nat)(s:GS)(r:Pr):GS:=(if dC f o p i j=Bq f o p (i+1) (j+1)then qy (IJ s.1 (aR (i,j))) (aR (i,j)) r else s.1,s.2)
def Lc(i j:Nat)(s:GS)(r:Pr):GS:=(bq f o p i j).foldl (fun s c=>yP s c r) (IK f o p i j s r)
def He(i j:Nat)(s:GS):GS:=(if dC f o p i j=some W then IJ s.1 (aR (i,j))else s.1,s.2)
def Dm(i j:Nat)(s:GS):GS:=
 match s.2 (aR (i+1,j+1))with
 |some r=>Lc f o p i j (He f o p W i j s) r
 |none=>He f o p W i j s
open Classical in
noncomputable def Z2(i j:Nat)(s:GS):GS:=if (Dm f o p W i j s).1 (aR (i,j)) (aR (i,j))∧gN (Bq f o p i j)=true then yP (Dm f o p W i j s) (aR (i,j)) (aR (i,j))else Dm f o p W i j s
structure il(s:GS):Prop where
 sy:∀a b,s.1 a b→s.1 b a
 tr:∀a b c,s.1 a b→s.1 b c→s.1 a c
 hg:∀a b,s.1 a b→gL f o p W a b
 mr:∀c r,s.2 c=some r→s.1 r r∧∃i j:Nat,c=aR (i,j)∧Over f o p W (i:Int) (j:Int) r
end
structure Gw(s s':GS)(N:Pr→Prop)(M:Pr→Prop):Prop where
 e:∀a b,s.1 a b→s'.1 a b
 n:∀a,s'.1 a a→s.1 a a∨N a
 m:∀c r,s.2 c=some r→s'.2 c=some r
 k:∀c r,s'.2 c=some r→s.2 c=some r∨M c
theorem Gw.refl{s:GS}{N M:Pr→Prop}:Gw s s N M:=⟨fun _ _ h=>h,fun _ h=> .inl h,fun _ _ h=>h,fun _ _ h=> .inl h⟩
theorem Gw.trans{s s' vV:GS}{N M:Pr→Prop}(a:Gw s s' N M)(b:Gw s' vV N M):Gw s vV N M:=
 ⟨fun x y h=>b.e x y (a.e x y h),fun x h=>(b.n x h).elim (a.n x) .inr,fun c r h=>b.m c r (a.m c r h),fun c r h=>(b.k c r h).elim (a.k c r) .inr⟩
theorem Gw.wide{s s':GS}{N M N' M':Pr→Prop}(a:Gw s s' N M)(hN:∀x,N x→N' x)(hM:∀x,M x→M' x):Gw s s' N' M':=⟨a.e,fun x h=>(a.n x h).imp id (hN x),a.m,fun c r h=>(a.k c r h).imp id (hM c)⟩
section
variable{f:Nat→Nat→Option Int}{o p W:Int}{s:GS}
theorem il.Ut(k:il f o p W s){a b:Pr}(ha:s.1 a a)(hb:s.1 b b)(h:gL f o p W a b):il f o p W (qy s.1 a b,s.2):=by
 have hc:∀c,s.1 c a∨s.1 c b→gL f o p W c a:=fun c h'=>h'.elim (k.hg c a) fun z=> .tr (k.hg c b z) h.symm
 refine⟨fun x y h=>?_,fun x y z h1 h2=>?_,fun x y h=>?_,fun c r h=>⟨.inl (k.mr c r h).1,(k.mr c r h).2⟩⟩
 ·exact h.imp (k.sy x y) fun h=>⟨h.2,h.1⟩
 ·rcases h1 with h1|⟨h1,Io⟩
  ·rcases h2 with h2|⟨h2,Iq⟩
   ·exact .inl (k.tr _ _ _ h1 h2)
   ·exact .inr ⟨h2.imp (k.tr _ _ _ h1) (k.tr _ _ _ h1),Iq⟩
  ·rcases h2 with h2|⟨h2,Iq⟩
   ·exact .inr ⟨h1,Io.imp (k.tr _ _ _ (k.sy _ _ h2)) (k.tr _ _ _ (k.sy _ _ h2))⟩
   ·exact .inr ⟨h1,Iq⟩
 ·rcases h with h|⟨h1,h2⟩
  ·exact k.hg x y h
  ·exact .tr (hc x h1) (hc y h2).symm
theorem il.take(k:il f o p W s){a:Pr}(h:gL f o p W a a):il f o p W (IJ s.1 a,s.2):=by
 refine⟨fun x y h=>?_,fun x y z h1 h2=>?_,fun x y h'=>?_,fun c r h=>⟨.inl (k.mr c r h).1,(k.mr c r h).2⟩⟩
 ·exact h.imp (k.sy x y) fun h=>⟨h.2,h.1⟩
 ·rcases h1 with h1|⟨h1,Io⟩
  ·rcases h2 with h2|⟨h2,Iq⟩
   ·exact .inl (k.tr _ _ _ h1 h2)
   ·subst h2 Iq;exact .inl h1
  ·subst h1 Io;exact h2
 ·rcases h' with h'|⟨h1,h2⟩
  ·exact k.hg x y h'
  ·subst h1 h2;exact h
theorem E9(sy:∀a b,s.1 a b→s.1 b a)(tr:∀a b c,s.1 a b→s.1 b c→s.1 a c){a b:Pr}:Gw s (qy s.1 a b,s.2) (fun _=>False) (fun _=>False):=by
 refine⟨fun _ _ h=> .inl h,fun x h=> .inl ?_,fun _ _ h=>h,fun _ _ h=> .inl h⟩;rcases h with h|⟨h,_⟩
 ·exact h
 ·exact h.elim (fun z=>tr _ _ _ z (sy _ _ z)) fun z=>tr _ _ _ z (sy _ _ z)
theorem il.mark(T:dQ f o p W)(k:il f o p W s){i j:Nat}{r:Pr}(hr:s.1 r r)(ov:Over f o p W (i:Int) (j:Int) r):il f o p W (yP s (aR (i,j)) r):=by
 unfold yP;cases e:s.2 (aR (i,j))with
 |some r0=>
  obtain⟨h1,i2,j2,h2,h3⟩:=k.mr _ _ e;have h2:(i:Int)=i2∧(j:Int)=j2:=by simpa[aR]using h2
  rw[←h2.1,←h2.2]at h3;exact k.Ut h1 hr (over_over T h3 ov)
 |none=>
  refine⟨k.sy,k.tr,k.hg,fun c r' h=>?_⟩;have h:(if c=aR (i,j)then some r else s.2 c)=some r':=h;by_cases e2:c=aR (i,j)
  ·rw[Zp e2]at h;cases h;exact⟨hr,i,j,e2,ov⟩
  ·rw[Zm e2]at h;exact k.mr c r' h
theorem IL(k:il f o p W s){c r:Pr}:Gw s (yP s c r) (fun _=>False) (·=c):=by
 unfold yP;cases e:s.2 c with
 |some r0=>exact(E9 k.sy k.tr).wide (fun _ h=>h) fun _ h=>h.elim
 |none=>
  refine⟨fun _ _ h=>h,fun _ h=> .inl h,fun c' r' h=>?_,fun c' r' h=>?_⟩
  ·show(if c'=c then some r else s.2 c')=some r';rw[Zm (fun z=>by rw[z,e]at h;cases h)];exact h
  ·have h:(if c'=c then some r else s.2 c')=some r':=h;by_cases e2:c'=c
   ·exact .inr e2
   ·rw[Zm e2]at h;exact .inl h
theorem E_(k:il f o p W s){c r:Pr}(hr:s.1 r r):∃r',(yP s c r).2 c=some r'∧(yP s c r).1 r r':=by
 unfold yP;cases e:s.2 c with
 |some r0=>exact⟨r0,e, .inr ⟨.inr hr, .inl (k.mr _ _ e).1⟩⟩
 |none=>exact⟨r,ZD,hr⟩
theorem tD(T:dQ f o p W){r:Pr}:∀(cs:List Pr)(s:GS),il f o p W s→s.1 r r→(∀c∈cs,∃i j:Nat,c=aR (i,j)∧Over f o p W (i:Int) (j:Int) r)→
  il f o p W (cs.foldl (fun s c=>yP s c r) s)∧Gw s (cs.foldl (fun s c=>yP s c r) s) (fun _=>False) (·∈cs)∧∀c∈cs,∃r',(cs.foldl (fun s c=>yP s c r) s).2 c=some r'∧(cs.foldl (fun s c=>yP s c r) s).1 r r'
 |[],s,k,_,_=>⟨k, .refl,fun c h=>by cases h⟩
 |c::cs,s,k,hr,h=>by
  obtain⟨i,j,rfl,ov⟩:=h c (ZD);have k1:=k.mark T hr ov;have g1:=IL k (c:=aR (i,j)) (r:=r);obtain⟨r',m1,m2⟩:=E_ k (c:=aR (i,j)) hr;obtain⟨a1,a2,a3⟩:=tD T cs _ k1 (g1.e _ _ hr) fun c hc=>h c (by simp[hc])
  refine⟨a1,(g1.wide (fun _ h=>h) fun x hx=>?_).trans (a2.wide (fun _ h=>h) fun x hx=>?_),fun c hc=>?_⟩
  ·show x∈_::_;rw[hx];simp
  ·exact List.mem_cons_of_mem _ hx
  ·rcases List.mem_cons.mp hc with rfl|hc
   ·exact⟨r',a2.m _ _ m1,a2.e _ _ m2⟩
   ·exact a3 c hc
theorem rq(T:dQ f o p W){i j:Nat}{r:Pr}(h:Over f o p W ((i+1:Nat):Int) ((j+1:Nat):Int) r):∀c∈bq f o p i j,∃x y:Nat,c=aR (x,y)∧Over f o p W (x:Int) (y:Int) r:=by
 intro c hc;unfold bq at hc;rcases List.mem_append.mp hc with hc|hc
 ·split at hc
  ·rename_i e
   have:c=aR (i,j+1):=by simpa[aR]using hc
   refine⟨i,j+1,this,rp T h Zw (Zz) ?_ e⟩;have e1:((i+1:Nat):Int)-(i:Int)=1:=Zz;have e2:((j+1:Nat):Int)-((j+1:Nat):Int)=0:=Zz;rw[e1,e2];omega
  ·cases hc
 ·split at hc
  ·rename_i e
   have:c=aR (i+1,j):=by simpa[aR]using hc
   refine⟨i+1,j,this,rp T h Zw (Zz) ?_ e⟩;have e1:((i+1:Nat):Int)-((i+1:Nat):Int)=0:=Zz;have e2:((j+1:Nat):Int)-(j:Int)=1:=Zz;rw[e1,e2];omega
  ·cases hc
theorem Fb(T:dQ f o p W)(k:il f o p W s){i j:Nat}{r:Pr}(hr:s.1 r r)(ov:Over f o p W ((i+1:Nat):Int) ((j+1:Nat):Int) r):
  il f o p W (IK f o p i j s r)∧Gw s (IK f o p i j s r) (·=aR (i,j)) (·∈bq f o p i j)∧(dC f o p i j=Bq f o p (i+1) (j+1)→(IK f o p i j s r).1 (aR (i,j)) r):=by
 unfold IK;by_cases e:dC f o p i j=Bq f o p (i+1) (j+1)
 ·rw[Zp e];have h:=CD T ov e;have k1:=k.take h.left;have k2:=k1.Ut (a:=aR (i,j)) (b:=r) (.inr ⟨rfl,rfl⟩) (.inl hr) h;refine⟨k2,⟨fun a b h=> .inl (.inl h),fun a h=>?_,fun _ _ h=>h,fun _ _ h=> .inl h⟩,fun _=> .inr ⟨.inl (.inr ⟨rfl,rfl⟩), .inr (.inl hr)⟩⟩;rcases(E9 (s:=(IJ s.1 (aR (i,j)),s.2)) k1.sy k1.tr).n a h with h|h
  ·exact h.imp id And.left
  ·exact h.elim
 ·rw[Zm e];exact⟨⟨k.sy,k.tr,k.hg,k.mr⟩, .refl,fun z=>absurd z e⟩
theorem N7(T:dQ f o p W)(k:il f o p W s){i j:Nat}{r:Pr}(hr:s.1 r r)(ov:Over f o p W ((i+1:Nat):Int) ((j+1:Nat):Int) r):
  il f o p W (Lc f o p i j s r)∧Gw s (Lc f o p i j s r) (·=aR (i,j)) (·∈bq f o p i j)∧(dC f o p i j=Bq f o p (i+1) (j+1)→(Lc f o p i j s r).1 (aR (i,j)) r)∧∀c∈bq f o p i j,∃r',(Lc f o p i j s r).2 c=some r'∧(Lc f o p i j s r).1 r r':=by
 obtain⟨b1,b2,b3⟩:=Fb T k hr ov;obtain⟨a1,a2,a3⟩:=tD T (bq f o p i j) _ b1 (b2.e _ _ hr) (rq T ov);exact⟨a1,b2.trans (a2.wide (fun _ h=>h.elim) fun _ h=>h),fun e=>a2.e _ _ (b3 e),a3⟩
theorem Fe(k:il f o p W s)(i j:Nat):il f o p W (He f o p W i j s)∧Gw s (He f o p W i j s) (·=aR (i,j)) (fun _=>False)∧(dC f o p i j=some W→(He f o p W i j s).1 (aR (i,j)) (aR (i,j))):=by
 unfold He;by_cases e:dC f o p i j=some W
 ·rw[Zp e];exact⟨k.take (E8 e),⟨fun _ _ h=> .inl h,fun _ h=>h.imp id And.left,fun _ _ h=>h,fun _ _ h=> .inl h⟩,fun _=> .inr ⟨rfl,rfl⟩⟩
 ·rw[Zm e];exact⟨⟨k.sy,k.tr,k.hg,k.mr⟩, .refl,fun z=>absurd z e⟩
def Ld(f:Nat→Nat→Option Int)(o p:Int)(i j:Nat)(c:Pr):Prop:=c∈bq f o p i j∨c=aR (i,j)
theorem Ff(T:dQ f o p W)(k:il f o p W s)(i j:Nat):il f o p W (Dm f o p W i j s)∧Gw s (Dm f o p W i j s) (·=aR (i,j)) (Ld f o p i j)∧(dC f o p i j=some W→(Dm f o p W i j s).1 (aR (i,j)) (aR (i,j)))∧∀r,s.2 (aR (i+1,j+1))=some r→
  (dC f o p i j=Bq f o p (i+1) (j+1)→(Dm f o p W i j s).1 (aR (i,j)) r)∧∀c∈bq f o p i j,∃r',(Dm f o p W i j s).2 c=some r'∧(Dm f o p W i j s).1 r r':=by
 obtain⟨k1,g1,e1⟩:=Fe k i j;unfold Dm;cases e:s.2 (aR (i+1,j+1))with
 |none=>exact⟨k1,g1.wide (fun _ h=>h) fun _ h=>h.elim,e1,fun r h=>by cases h⟩
 |some r=>
  obtain⟨h1,i2,j2,h2,h3⟩:=k.mr _ _ e;have h2:((i+1:Nat):Int)=i2∧((j+1:Nat):Int)=j2:=by simpa[aR]using h2
  rw[←h2.1,←h2.2]at h3;obtain⟨a1,a2,a3,a4⟩:=N7 T k1 (g1.e _ _ h1) h3;refine⟨a1,(g1.wide (fun _ h=>h) fun _ h=>h.elim).trans (a2.wide (fun _ h=>h) fun _ h=> .inl h),fun z=>a2.e _ _ (e1 z),fun r' h=>?_⟩;cases h;exact⟨a3,a4⟩
theorem N8(T:dQ f o p W)(k:il f o p W s)(i j:Nat):il f o p W (Z2 f o p W i j s)∧Gw s (Z2 f o p W i j s) (·=aR (i,j)) (Ld f o p i j)∧(dC f o p i j=some W→(Z2 f o p W i j s).1 (aR (i,j)) (aR (i,j)))∧(∀r,s.2 (aR (i+1,j+1))=some r→
  (dC f o p i j=Bq f o p (i+1) (j+1)→(Z2 f o p W i j s).1 (aR (i,j)) r)∧∀c∈bq f o p i j,∃r',(Z2 f o p W i j s).2 c=some r'∧(Z2 f o p W i j s).1 r r')∧
  ((Z2 f o p W i j s).1 (aR (i,j)) (aR (i,j))→gN (Bq f o p i j)=true→∃r,(Z2 f o p W i j s).2 (aR (i,j))=some r∧(Z2 f o p W i j s).1 (aR (i,j)) r):=by
 obtain⟨k1,g1,e1,o1⟩:=Ff T k i j;unfold Z2;split
 ·rename_i h
  have k2:=k1.mark T h.1 (Hd T (k1.hg _ _ h.1) h.2);have g2:=IL k1 (c:=aR (i,j)) (r:=aR (i,j));refine⟨k2,g1.trans (g2.wide (fun _ h=>h.elim) fun _ h=> .inr h),fun z=>g2.e _ _ (e1 z),fun r hr=>?_,fun _ _=>E_ k1 h.1⟩;obtain⟨a1,a2⟩:=o1 r hr;refine⟨fun z=>g2.e _ _ (a1 z),fun c hc=>?_⟩;obtain⟨r',b1,b2⟩:=a2 c hc;exact⟨r',g2.m _ _ b1,g2.e _ _ b2⟩
 ·rename_i h
  exact⟨k1,g1,e1,o1,fun h1 h2=>absurd ⟨h1,h2⟩ h⟩
end
structure Vd(f:Nat→Nat→Option Int)(o p W:Int)(V:Nat→Nat→Prop)(s:GS):Prop where
 ok:il f o p W s
 WJ:∀a,s.1 a a→∃i j:Nat,a=aR (i,j)∧V i j
 en:∀i j,V i j→dC f o p i j=some W→s.1 (aR (i,j)) (aR (i,j))
 on:∀i j,V i j→s.1 (aR (i,j)) (aR (i,j))→gN (Bq f o p i j)=true→∃r,s.2 (aR (i,j))=some r∧s.1 (aR (i,j)) r
 ov:∀i j r,V i j→s.2 (aR (i+1,j+1))=some r→(dC f o p i j=Bq f o p (i+1) (j+1)→s.1 (aR (i,j)) r)∧∀c∈bq f o p i j,∃r',s.2 c=some r'∧s.1 r r'
theorem iH{a b c d:Nat}(h:aR (a,b)=aR (c,d)):a=c∧b=d:=by
 have h:(a:Int)=c∧(b:Int)=d:=by simpa[aR]using h
 omega
theorem Fg{f:Nat→Nat→Option Int}{o p:Int}{i j a b:Nat}(h:Ld f o p i j (aR (a+1,b+1))):(a+1=i∧b+1=j)∨(a+1=i∧b=j)∨(a=i∧b+1=j):=by
 rcases h with h|h
 ·unfold bq at h;rcases List.mem_append.mp h with h|h
  ·split at h
   ·have:aR (a+1,b+1)=aR (i,j+1):=by simpa[aR]using h
    have:=iH this;omega
   ·cases h
  ·split at h
   ·have:aR (a+1,b+1)=aR (i+1,j):=by simpa[aR]using h
    have:=iH this;omega
   ·cases h
 ·have:=iH h;omega
def Vb(n m i j:Nat)(a b:Nat):Prop:=a<n∧b<m∧(i<a∨(i=a∧j≤b))
theorem Vd.start(f:Nat→Nat→Option Int)(o p W:Int)(n m:Nat):Vd f o p W (Vb n m n 0) (fun _ _=>False,fun _=>none):=by
 have no:∀a b,¬Vb n m n 0 a b:=fun a b ⟨h1,_,h2⟩=>Zz
 exact⟨⟨fun _ _ h=>h.elim,fun _ _ _ h=>h.elim,fun _ _ h=>h.elim,fun _ _ h=>(by cases h)⟩,fun _ h=>h.elim,fun i j h=>absurd h (no i j),fun i j h=>absurd h (no i j),fun i j r h=>absurd h (no i j)⟩
theorem Vd.turn{f:Nat→Nat→Option Int}{o p W:Int}{n m i:Nat}{s:GS}(v:Vd f o p W (Vb n m (i+1) 0) s):Vd f o p W (Vb n m i m) s:=by
 have e:Vb n m (i+1) 0=Vb n m i m:=by
  funext a b
  simp only[Vb,eq_iff_iff];omega
 rw[←e];exact v
theorem Vd.next{f:Nat→Nat→Option Int}{o p W:Int}{n m i j:Nat}{s:GS}(T:dQ f o p W)(hi:i<n)(hj:j<m)(v:Vd f o p W (Vb n m i (j+1)) s):Vd f o p W (Vb n m i j) (Z2 f o p W i j s):=by
 obtain⟨k,g,e,ov,on⟩:=N8 T v.ok i j;have cut:∀a b,Vb n m i j a b→(a=i∧b=j)∨Vb n m i (j+1) a b:=fun a b h=>by
  unfold Vb at h⊢
  lia
 have old:∀a b r,Vb n m i j a b→(Z2 f o p W i j s).2 (aR (a+1,b+1))=some r→s.2 (aR (a+1,b+1))=some r:=fun a b r h hr=>by
  rcases g.k _ _ hr with z|z
  ·exact z
  ·have:=Fg z;unfold Vb at h
   lia
 refine⟨k,fun a ha=>?_,fun a b h he=>?_,fun a b h h1 h2=>?_,fun a b r h hr=>?_⟩
 ·rcases g.n a ha with z|z
  ·obtain⟨x,y,h1,h2⟩:=v.WJ a z;exact⟨x,y,h1,by unfold Vb at h2⊢;lia⟩
  ·exact⟨i,j,z,by unfold Vb;lia⟩
 ·rcases cut a b h with⟨rfl,rfl⟩|h'
  ·exact e he
  ·exact g.e _ _ (v.en a b h' he)
 ·rcases cut a b h with⟨rfl,rfl⟩|h'
  ·exact on h1 h2
  ·have hs:s.1 (aR (a,b)) (aR (a,b)):=by
    rcases g.n _ h1 with z|z
    ·exact z
    ·have:=iH z;unfold Vb at h'
     lia
   obtain⟨r,z1,z2⟩:=v.on a b h' hs h2;exact⟨r,g.m _ _ z1,g.e _ _ z2⟩
 ·have Lb:=old a b r h hr;rcases cut a b h with⟨rfl,rfl⟩|h'
  ·exact ov r Lb
  ·obtain⟨z1,z2⟩:=v.ov a b r h' Lb;refine⟨fun z=>g.e _ _ (z1 z),fun c hc=>?_⟩;obtain⟨r',y1,y2⟩:=z2 c hc;exact⟨r',g.m _ _ y1,g.e _ _ y2⟩
theorem jS{f:Nat→Nat→Option Int}{n m:Nat}(t:Df f n m){ps:List Pr}(w:Wy (lf f) ps){a:Pr}(h:a∈ps):∃i j:Nat,a=aR (i,j)∧i<n∧j<m:=by
 have hs:=w.ok a h;obtain⟨i,j,rfl⟩:=Bj hs;rw[qr]at hs;obtain⟨h1,h2⟩:=t i j hs;exact⟨i,j,rfl,h1,h2⟩
theorem Vd.step{f:Nat→Nat→Option Int}{o p W:Int}{n m:Nat}{s:GS}(T:dQ f o p W)(v:Vd f o p W (Vb n m 0 0) s){us vs:List Pr}{q r:Nat×Nat}(w:BW f o p W (us++aR q::aR r::vs))(hr:r.1<n)(Z1:r.2<m)(hq:q.1<r.1)(Fh:q.2<r.2)(hE:s.1 (aR r) (aR r)):s.1 (aR q) (aR r):=by
 obtain⟨b1,b2,b3⟩:=between T w;have ok:=v.ok;have V0:∀a b,a<n→b<m→Vb n m 0 0 a b:=fun a b h1 h2=>⟨h1,h2,by lia⟩
 have top:=b1 r.1 r.2 hq Fh (Nat.le_refl _) (Nat.le_refl _);obtain⟨r0,m0,e0⟩:=v.on r.1 r.2 (V0 _ _ hr Z1) hE (by rw[top];simpa[gN]using b3);have WK:∀x y:Nat,uw f o p (us++[aR q]) (x:Int) (y:Int)-o=uw f o p (us++[aR q]) ((x+1:Nat):Int) (y:Int):=fun x y=>by
  unfold uw;have e1:((x+1:Nat):Int)-1-(lstP (us++[aR q])).1=((x:Int)-1-(lstP (us++[aR q])).1)+1:=by lia
  rw[e1,Int.mul_add];lia
 have WL:∀x y:Nat,uw f o p (us++[aR q]) (x:Int) (y:Int)-p=uw f o p (us++[aR q]) (x:Int) ((y+1:Nat):Int):=fun x y=>by
  unfold uw;have e1:((y+1:Nat):Int)-1-(lstP (us++[aR q])).2=((y:Int)-1-(lstP (us++[aR q])).2)+1:=by lia
  rw[e1,Int.mul_add];lia
 have go:∀d x y:Nat,(r.1-x)+(r.2-y)=d→q.1<x→q.2<y→x≤r.1→y≤r.2→∃r',s.2 (aR (x,y))=some r'∧s.1 (aR r) r':=by
  intro d
  induction d with
  |zero=>
   intro x y hd h1 h2 h3 h4;have:x=r.1:=by lia
   have:y=r.2:=by lia
   subst x y;exact⟨r0,m0,e0⟩
  |succ d ih=>
   intro x y hd h1 h2 h3 h4;by_cases hx:x<r.1
   ·obtain⟨r1,m1,e1⟩:=ih (x+1) y Zx (by lia) h2 Zx h4;obtain⟨y,rfl⟩:∃y',y=y'+1:=⟨y-1,by lia⟩
    obtain⟨_,z⟩:=v.ov x y r1 (V0 _ _ (by lia) (by lia)) m1;have hc:aR (x,y+1)∈bq f o p x y:=by
     unfold bq;refine List.mem_append_left _ ?_;rw[if_pos]
     ·simp[aR]
     ·rw[b1 x (y+1) h1 h2 h3 h4,b1 (x+1) (y+1) (by lia) h2 Zx h4];simp only[bx];rw[WK]
    obtain⟨r2,m2,e2⟩:=z _ hc;exact⟨r2,m2,ok.tr _ _ _ e1 e2⟩
   ·obtain⟨r1,m1,e1⟩:=ih x (y+1) (by lia) h1 Zx h3 Zx;obtain⟨x,rfl⟩:∃x',x=x'+1:=⟨x-1,by lia⟩
    obtain⟨_,z⟩:=v.ov x y r1 (V0 _ _ (by lia) (by lia)) m1;have hc:aR (x+1,y)∈bq f o p x y:=by
     unfold bq;refine List.mem_append_right _ ?_;rw[if_pos]
     ·simp[aR]
     ·rw[b1 (x+1) y h1 h2 h3 h4,b1 (x+1) (y+1) h1 Zx h3 Zx];simp only[bx];rw[WL]
    obtain⟨r2,m2,e2⟩:=z _ hc;exact⟨r2,m2,ok.tr _ _ _ e1 e2⟩
 obtain⟨r1,m1,e1⟩:=go _ (q.1+1) (q.2+1) rfl (by lia) (by lia) (by lia) (by lia);obtain⟨z,_⟩:=v.ov q.1 q.2 r1 (V0 _ _ (by lia) (by lia)) m1;have:=z (by
  rw[b2,b1 (q.1+1) (q.2+1) (by lia) (by lia) (by lia) (by lia)]
  congr 1
  unfold uw;rw[dH];have z1:((q.1+1:Nat):Int)-1-(aR q).1=0:=by show((q.1+1:Nat):Int)-1-(q.1:Int)=0;lia
  have z2:((q.2+1:Nat):Int)-1-(aR q).2=0:=by show((q.2+1:Nat):Int)-1-(q.2:Int)=0;lia
  rw[z1,z2,Int.mul_zero,Int.mul_zero];lia)
 exact ok.tr _ _ _ this (ok.sy _ _ e1)
theorem Vd.all{f:Nat→Nat→Option Int}{o p W:Int}{n m:Nat}{s:GS}(T:dQ f o p W)(t:Df f n m)(v:Vd f o p W (Vb n m 0 0) s){ws:List Pr}(w:BW f o p W ws):
  ∀(vs us:List Pr),ws=us++vs→vs≠[]→∀a∈vs,s.1 a (la vs)
 |[],_,_,h=>absurd rfl h
 |[l],us,e,_=>fun a ha=>by
  have ha:a=l:=by simpa using ha
  subst ha;show s.1 a a;obtain⟨i,j,rfl,hi,hj⟩:=jS t w.1 (a:=a) (by rw[e];simp);have hl:lstP ws=aR (i,j):=by rw[e];exact dH
  obtain⟨b,hb,hle⟩:=w6 (o:=o) (p:=p) w.1 hl;obtain⟨as,a1,a2,a3⟩:=mq hb;have:=T _ a1;have hW:=w.2;exact v.en i j ⟨hi,hj,Zz⟩ (by rw[hb];congr 1;omega)
 |q::r::vs,us,e,_=>fun a ha=>by
  have ih:=Vd.all T t v w (r::vs) (us++[q]) (by rw[e];simp) (ZD);have L4:s.1 r r:=ih r Zu;have ok:=v.ok;obtain⟨i,j,hq,hi,hj⟩:=jS t w.1 (a:=q) (by rw[e];simp);obtain⟨x,y,hr,hx,hy⟩:=jS t w.1 (a:=r) (by rw[e];simp);have u9:Z0 q r:=by
   have:=w.1.up;rw[e]at this;exact(List.pairwise_cons.mp (List.pairwise_append.mp this).2.1).1 r Zu
  rw[hq,hr]at u9;have h1:(i:Int)<x:=u9.1;have h2:(j:Int)<y:=u9.2;rw[e,hq,hr]at w;have key:=v.step T w (q:=(i,j)) (r:=(x,y)) hx hy (by show i<x;omega) (by show j<y;omega) (by rw[←hr];exact L4);rw[←hq,←hr]at key;show s.1 a q;rcases List.mem_cons.mp ha with rfl|ha
  ·exact ok.tr _ _ _ key (ok.sy _ _ key)
  ·exact ok.tr _ _ _ (ih a ha) (ok.sy _ _ key)
theorem Vd.RX{f:Nat→Nat→Option Int}{o p W:Int}{n m:Nat}{s:GS}(T:dQ f o p W)(t:Df f n m)(v:Vd f o p W (Vb n m 0 0) s)(a b:Pr):s.1 a b↔gL f o p W a b:=by
 refine⟨v.ok.hg a b,fun h=>?_⟩
 induction h with
 |way ps w h1 h2=>
  have k:=Vd.all T t v w ps [] rfl w.1.ne;exact v.ok.tr _ _ _ (k _ h1) (v.ok.sy _ _ (k _ h2))
 |tr _ _ i1 i2=>exact v.ok.tr _ _ _ i1 i2
theorem Told.iff{E E':Pr→Pr→Prop}{gs:List (List Pr)}(t:Told E gs)(h:∀a b,E a b↔E' a b):Told E' gs:=
 ⟨t.qu,t.ne,fun ps hp a ha b=>(t.cls ps hp a ha b).trans (h a b),fun a ha=>t.all a ((h a a).mpr ha),t.apart⟩
def NT(H:Hp)(a:Addr):Prop:=∃o,H a=some o∧∀v,o≠ .tup v
theorem NT.same{H H':Hp}{a:Addr}(h:NT H a)(s:ax H H'):NT H' a:=let ⟨o,h1,h2⟩:=h;⟨o,s _ _ h1,h2⟩
theorem oR.cD{S S':Addr→Prop}{H H':Hp}(u:oR S H S' H')(h:∀a,S a→NT H a):dG H H':=fun t v e=>u.keep t _ (fun z=>by
 obtain⟨o,h1,h2⟩:=h t z;rw[e]at h1;cases h1;exact h2 v rfl) e
theorem oR.out{S S':Addr→Prop}{H H':Hp}(u:oR S H S' H'){a:Addr}{o:HO}(h:¬S a)(e:H a=some o):¬S' a:=fun z=>by
 rcases u.grow a z with z|z
 ·exact h z
 ·rw[e]at z;cases z
theorem jR.nt{H:Hp}{C g:Addr}{S:Addr→Prop}{E:Pr→Pr→Prop}{B:Nat}(G:jR H C g S E B):jR H C g (fun a=>S a∧NT H a) E B:=by
 obtain⟨dg,dl,dm,kl,km,ld,mm,a1,a2,D,a4⟩:=G;refine⟨dg,dl,dm,kl,km,ld,mm,a1,fun z=>a2 z.1,⟨D.hl,D.hm,⟨D.sl,_,D.hl,fun v=>(ZD)⟩,⟨D.sm,_,D.hm,fun v=>(ZD)⟩,D.ne,D.lv,fun p=>?_,D.inj,D.key,D.BB,D.ms,D.ml,D.self⟩,a4⟩;have:=D.mv p;cases e:mm p with
 |none=>rw[e]at this;exact this
 |some ms=>
  rw[e]at this;obtain⟨a,us,h1,h2,h3,h4⟩:=this;exact⟨a,us,h1,h2,h3,h4,_,h2,fun v=>(ZD)⟩
structure IM(K:W.Frag)(C:Addr):Prop where
 cl:vT K C
 tE:b_ K C "trails"
 worth:b_ K C "worth"
 groups:b_ K C "groups"
 marks:b_ K C "marks"
def jT(tr:Addr)(W:Int)(g dk:Addr):List (Str×V):=[("trails", .ref tr),("worth", .int W),("groups", .ref g),("marks", .ref dk)]
theorem mw(a:Addr)(W:Int)(b c:Addr):(jT a W b c).lookup ("trails":Str)=some (V.ref a):=by kernel_rfl
theorem Fi(a:Addr)(W:Int)(b c:Addr):(jT a W b c).lookup ("worth":Str)=some (V.int W):=by kernel_rfl
theorem iW(a:Addr)(W:Int)(b c:Addr):(jT a W b c).lookup ("groups":Str)=some (V.ref b):=by kernel_rfl
theorem lI(a:Addr)(W:Int)(b c:Addr):(jT a W b c).lookup ("marks":Str)=some (V.ref c):=by kernel_rfl
theorem BF(a:Addr)(W:Int)(b c:Addr):(jT a W b c).lookup ("mark":Str)=none:=by kernel_rfl
theorem Hf(a:Addr)(W:Int)(b c:Addr):(jT a W b c).lookup ("go_over":Str)=none:=by kernel_rfl
theorem Fj(a:Addr)(W:Int)(b c:Addr):(jT a W b c).lookup ("visit":Str)=none:=by kernel_rfl
theorem Le(a:Addr)(W:Int)(b c:Addr):bo "marks" (.ref c) (bo "groups" (.ref b) (bo "worth" (.int W) (bo "trails" (.ref a) [])))=jT a W b c:=by kernel_rfl
structure Lf(H:Hp)(C CG x tr:Addr)(W:Int)(S:Addr→Prop)(s:GS)(B M:Nat)(dx g dk:Addr)(km:List (List Key×V))(S1:Addr→Prop):Prop where
 ob:H x=some (.ins C dx (jT tr W g dk))
 gr:jR H CG g S1 s.1 B
 hk:H dk=some (.dT km)
 mv:∀c,K_ H (bu km (a_ c)) (s.2 c)
 len:km.length≤M
 sS:∀a,S a↔S1 a∨a=dk
 BB:¬S1 dk
 nx:¬S x
 ng:¬S g
 nt:∀a,S a→NT H a
def ip(H:Hp)(C CG x tr:Addr)(W:Int)(S:Addr→Prop)(s:GS)(B M:Nat):Prop:=∃dx g dk km S1,Lf H C CG x tr W S s B M dx g dk km S1
theorem ip.nt{H:Hp}{C CG x tr:Addr}{W:Int}{S:Addr→Prop}{s:GS}{B M:Nat}(G:ip H C CG x tr W S s B M):∀a,S a→NT H a:=let ⟨_,_,_,_,_,D⟩:=G;D.nt
theorem ip.same{H H':Hp}{C CG x tr:Addr}{W:Int}{S:Addr→Prop}{s:GS}{B M:Nat}(G:ip H C CG x tr W S s B M)(t:ax H H'):ip H' C CG x tr W S s B M:=by
 obtain⟨dx,g,dk,km,S1,D⟩:=G;exact⟨dx,g,dk,km,S1,t _ _ D.ob,D.gr.same t,t _ _ D.hk,fun c=>(D.mv c).cD (dG.same t),D.len,D.sS,D.BB,D.nx,D.ng,fun a h=>(D.nt a h).same t⟩
theorem ip.out{H:Hp}{C CG x tr:Addr}{W:Int}{S:Addr→Prop}{s:GS}{B M:Nat}(G:ip H C CG x tr W S s B M){a:Addr}(h:H a=none):¬S a:=fun z=>by
 obtain⟨o,e,_⟩:=G.nt a z;rw[h]at e;cases e
theorem ip.cast{H:Hp}{C CG x tr:Addr}{W:Int}{S:Addr→Prop}{s s':GS}{B M B' M':Nat}(G:ip H C CG x tr W S s B M)(h:s=s')(hB:B≤B')(hM:M≤M'):ip H C CG x tr W S s' B' M':=by
 subst h;obtain⟨dx,g,dk,km,S1,D⟩:=G;exact⟨dx,g,dk,km,S1,D.ob,D.gr.iff (fun _ _=>Iff.rfl) hB,D.hk,D.mv,by have:=D.len;omega,D.sS,D.BB,D.nx,D.ng,D.nt⟩
section
variable{H H':Hp}{C CG x tr dx g dk:Addr}{W:Int}{S S1 Lg:Addr→Prop}{s:GS}{B M B':Nat}{km:List (List Key×V)}
theorem Lf.PB(D:Lf H C CG x tr W S s B M dx g dk km S1){E':Pr→Pr→Prop}(u:oR S1 H Lg H')(G:jR H' CG g Lg E' B'):∃S' S2,oR S H S' H'∧Lf H' C CG x tr W S' (E',s.2) B' M dx g dk km S2:=by
 have s1:∀a,S1 a→S a:=fun a h=>(D.sS a).mpr (.inl h)
 have WM:∀a,S1 a→NT H a:=fun a h=>D.nt a (s1 a h)
 have T:=u.cD WM;have En:=u.keep dk _ D.BB D.hk;obtain⟨dg,dl,dm,kl,Hg,ld,mm,og,_⟩:=id D.gr;have gone:∀{a o},¬S a→H a=some o→a≠dk→¬((Lg a∧NT H' a)∨a=dk):=fun{a o} h1 h2 h3 z=>by
  rcases z with z|z
  ·exact u.out (fun y=>h1 (s1 _ y)) h2 z.1
  ·exact h3 z
 have Ao:S dk:=(D.sS dk).mpr (.inr rfl);refine⟨fun a=>(Lg a∧NT H' a)∨a=dk,fun a=>Lg a∧NT H' a,⟨fun a h=>?_,fun a o h e=>u.keep a o (fun z=>h (s1 a z)) e⟩,⟨u.keep x _ (fun z=>D.nx (s1 _ z)) D.ob,G.nt,En,fun c=>(D.mv c).cD T,D.len,fun a=>Iff.rfl,fun z=>u.out D.BB D.hk z.1,gone D.nx D.ob (fun z=>D.nx (by rw[z];exact Ao)),gone D.ng og (fun z=>D.ng (by rw[z];exact Ao)),fun a h=>?_⟩⟩
 ·rcases h with h|h
  ·exact(u.grow a h.1).imp (s1 a) id
  ·exact .inl (by rw[h];exact Ao)
 ·rcases h with h|h
  ·exact h.2
  ·exact⟨_,by rw[h];exact En,fun v=>(ZD)⟩
theorem Lf.put(D:Lf H C CG x tr W S s B M dx g dk km S1){c r:Pr}{t:Addr}(ht:H t=some (.tup (jr r))):oR S H S (upd H dk (.dT (putK km (a_ c) (.ref t))))∧Lf (upd H dk (.dT (putK km (a_ c) (.ref t)))) C CG x tr W S (s.1,fun y=>if y=c then some r else s.2 y) B (M+1) dx g dk (putK km (a_ c) (.ref t)) S1:=by
 have Ao:S dk:=(D.sS dk).mpr (.inr rfl);have nx:x≠dk:=fun z=>D.nx (by rw[z];exact Ao)
 have ng:g≠dk:=fun z=>D.ng (by rw[z];exact Ao)
 have T:dG H (upd H dk (.dT (putK km (a_ c) (.ref t)))):=fun b v hb=>by
  rw[ak (fun z=>by rw[z,D.hk]at hb;cases hb)];exact hb
 refine⟨.put Ao,⟨by rw[ak nx];exact D.ob,D.gr.keep (fun a o h e=>by rw[ak (fun z=>D.BB (by rw[←z];exact h))];exact e) T (fun o e=>by rw[ak ng];exact e),ae,fun y=>?_,Nat.le_trans (eX _ _ _) (by have:=D.len;omega),D.sS,D.BB,D.nx,D.ng,fun a h=>?_⟩⟩
 ·show K_ _ _ (if y=c then some r else s.2 y);rw[i4];by_cases e:y=c
  ·rw[Zp (by rw[e]),Zp e];exact⟨t,rfl,T _ _ ht⟩
  ·rw[Zm (fun z=>e (de z)),Zm e];exact(D.mv y).cD T
 ·by_cases e:a=dk
  ·exact⟨_,by rw[e];exact ae,fun v=>(ZD)⟩
  ·obtain⟨o,h1,h2⟩:=D.nt a h;exact⟨o,by rw[ak e];exact h1,h2⟩
end
structure Base(H0 H:Hp)(S:Addr→Prop):Prop where
 same:ax H0 H
 free:∀a,S a→H0 a=none
theorem Base.ups{H0 H H':Hp}{S S':Addr→Prop}(b:Base H0 H S)(u:oR S H S' H'):Base H0 H' S':=by
 refine⟨fun a o h=>u.keep a o (fun z=>by rw[b.free a z]at h;cases h) (b.same a o h),fun a h=>?_⟩;rcases u.grow a h with z|z
 ·exact b.free a z
 ·exact b.same.free z
theorem Base.more{H0 H H':Hp}{S:Addr→Prop}(b:Base H0 H S)(s:ax H H'):Base H0 H' S:=⟨b.same.trans s,b.free⟩
inductive qz(C CG:Addr)(vs:List V)(H:Hp)(Q:VK)(u3:XK):Prop
 |mk (x dx tr:Addr) (W:Int) (_:vs=[.ref x, .ref tr, .int W]) (_:H x=some (.ins C dx [])) (_:∀H' S,SameBut x H H'→(∀a,S a→H a=none)→ip H' C CG x tr W S (fun _ _=>False,fun _=>none) 0 0→Q .cN H'):qz C CG vs H Q u3
inductive tF(C CG:Addr)(vs:List V)(H:Hp)(Q:VK)(u3:XK):Prop
 |mk (x tc tp tr:Addr) (W:Int) (c r:Pr) (S:Addr→Prop) (s:GS) (B M:Nat) (_:vs=[.ref x, .ref tc, .ref tp]) (_:ip H C CG x tr W S s B M) (_:H tc=some (.tup (jr c))) (_:H tp=some (.tup (jr r))) (_:s.1 r r) (_:∀r0,s.2 c=some r0→s.1 r0 r0) (_:B≤10000) (_:M≤10000) (_:∀H' S',oR S H S' H'→ip H' C CG x tr W S' (yP s c r) B (M+1)→Q .cN H'):tF C CG vs H Q u3
inductive tG(C CG CT:Addr)(vs:List V)(H:Hp)(Q:VK)(u3:XK):Prop
 |mk (x tc tp tr dt e b:Addr) (es bs:List Addr) (f:Nat→Nat→Option Int) (o p:Int) (n m:Nat) (W:Int) (i j:Nat) (r:Pr) (S:Addr→Prop) (s:GS) (B M:Nat) (H0:Hp) (_:vs=[.ref x, .ref tc, .ref tp]) (_:ip H C CG x tr W S s B M) (_:qv H0 CT tr dt e b es bs f o p n m) (_:Base H0 H S) (_:H tc=some (.tup (jr (aR (i+1,j+1))))) (_:H tp=some (.tup (jr (aR (i,j))))) (_:i<n) (_:j<m) (_:dQ f o p W) (_:il f o p W s) (_:s.2 (aR (i+1,j+1))=some r) (_:B<10000) (_:M+2≤10000)
  (_:∀H' S',oR S H S' H'→ip H' C CG x tr W S' (Lc f o p i j s r) (B+1) (M+2)→Q .cN H'):tG C CG CT vs H Q u3
inductive qA(C CG CT:Addr)(vs:List V)(H:Hp)(Q:VK)(u3:XK):Prop
 |mk (x tr dt e b:Addr) (es bs:List Addr) (f:Nat→Nat→Option Int) (o p:Int) (n m:Nat) (W:Int) (i j:Nat) (S:Addr→Prop) (s:GS) (B M:Nat) (H0:Hp) (_:vs=[.ref x, .int i, .int j]) (_:ip H C CG x tr W S s B M) (_:qv H0 CT tr dt e b es bs f o p n m) (_:Base H0 H S) (_:i<n) (_:j<m) (_:n≤1000) (_:m≤1000) (_:dQ f o p W) (_:il f o p W s) (_:B+2≤10000) (_:M+3≤10000)
  (_:∀H' S',oR S H S' H'→ip H' C CG x tr W S' (Z2 f o p W i j s) (B+2) (M+3)→Q .cN H'):qA C CG CT vs H Q u3
inductive Ap(CT:Addr)(vs:List V)(H:Hp)(Q:VK)(u3:XK):Prop
 |mk (tr dt e b:Addr) (es bs:List Addr) (f:Nat→Nat→Option Int) (o p:Int) (n m:Nat) (W:Int) (_:vs=[.ref tr, .int W]) (_:qv H CT tr dt e b es bs f o p n m) (_:Df f n m) (_:n*m≤3000) (_:n≤1000) (_:m≤1000) (_:dQ f o p W)
  (_:∀H' r us gs,ax H H'→H r=none→H' r=some (.lst us)→f' H' us gs→(∀(k:Nat) a,us[k]?=some (.ref a)→H a=none)→Told (gL f o p W) gs→Q (.ref r) H'):Ap CT vs H Q u3
structure Fd where
 worth:Int
 way:List Pr
 row:List Int
 pairs:List Pr
def Z6(g:Pr→Option Int)(o p:Int)(ps:List Pr):List Int:=(List.range ps.length).map fun k=>vl g o p (ps.take (k+1))
theorem Fl(g:Pr→Option Int)(o p:Int)(ps:List Pr)(q:Pr):Z6 g o p (ps++[q])=Z6 g o p ps++[vl g o p (ps++[q])]:=by
 unfold Z6;rw[List.length_append,List.length_singleton,List.range_succ,List.map_append]
 congr 1
 ·apply List.map_congr_left;intro k hk;have:k<ps.length:=by simpa using hk
  rw[List.take_append_of_le_length Zw]
 ·simp;rw[List.take_of_length_le Zu]
structure N9(f:Nat→Nat→Option Int)(o p W:Int)(d:Fd):Prop where
 worth:d.worth=W
 way:BW f o p W d.way
 row:d.row=Z6 (lf f) o p d.way
 sub:∀q∈d.way,q∈d.pairs
def fE(f:Nat→Nat→Option Int)(ps:List Pr):Nat→Nat→Option Int:=fun i j=>if aR (i,j)∈ps then none else f i j
def Stop(f:Nat→Nat→Option Int)(o p least:Int):Prop:=∀ps,Wy (lf f) ps→vl (lf f) o p ps<least
structure gX(f:Nat→Nat→Option Int)(o p least W:Int)(gs:List (List Pr))(ds:List Fd):Prop where
 top:dQ f o p W
 ex:∃ps,BW f o p W ps
 least:least≤W
 told:Told (gL f o p W) gs
 CH:ds.map Fd.pairs=gs
 ok:∀d∈ds,N9 f o p W d
inductive Reach(f0:Nat→Nat→Option Int)(o p least:Int):List Fd→(Nat→Nat→Option Int)→Prop
 |start:Reach f0 o p least [] f0
 |round {done:List Fd} {f:Nat→Nat→Option Int} {W:Int} {gs:List (List Pr)} {ds:List Fd} (_:Reach f0 o p least done f) (_:gX f o p least W gs ds):Reach f0 o p least (done++ds) (fE f gs.flatten)
theorem Fm{f:Nat→Nat→Option Int}{n m:Nat}(t:Df f n m)(ps:List Pr):Df (fE f ps) n m:=fun i j h=>t i j (by
 unfold fE at h;split at h
 ·cases h
 ·exact h)
theorem Reach.RY{f0 f:Nat→Nat→Option Int}{o p least:Int}{ds:List Fd}{n m:Nat}(t:Df f0 n m)(r:Reach f0 o p least ds f):Df f n m:=by
 induction r with
 |start=>exact t
 |round _ _ ih=>exact Fm ih _
theorem oT(f:Nat→Nat→Option Int)(ps:List Pr)(q:Pr):lf (fE f ps) q=if q∈ps then none else lf f q:=by
 unfold lf fE;by_cases h:0≤q.1∧0≤q.2
 ·rw[Zp h,Zp h];have:aR (q.1.toNat,q.2.toNat)=q:=Prod.ext (by simp[aR];omega) (by simp[aR];omega);rw[this]
 ·rw[Zm h,Zm h];split<;>rfl
theorem gL.open{f:Nat→Nat→Option Int}{o p W:Int}{a b:Pr}(h:gL f o p W a b):(lf f a).isSome=true:=by
 obtain⟨ps,⟨w,_⟩,hm⟩:=h.on;exact w.ok a hm
theorem Told.mem{E:Pr→Pr→Prop}{gs:List (List Pr)}(t:Told E gs){ps:List Pr}(h:ps∈gs){a:Pr}(ha:a∈ps):E a a:=(t.cls ps h a ha a).mp ha
structure Apart(f0 f:Nat→Nat→Option Int)(ds:List Fd):Prop where
 sub:∀q,(lf f q).isSome=true→lf f q=lf f0 q
 shut:∀d∈ds,∀q∈d.pairs,lf f q=none∧(lf f0 q).isSome=true
 ap:ds.Pairwise fun a b=>∀q∈a.pairs,q∉b.pairs
 qu:∀d∈ds,d.pairs.Pairwise (fun p q=>jw p q=true)∧d.pairs≠[]
 gone:∀q,lf f q=none→(lf f0 q).isSome=true→∃d∈ds,q∈d.pairs
theorem Reach.apart{f0 f:Nat→Nat→Option Int}{o p least:Int}{ds:List Fd}(r:Reach f0 o p least ds f):Apart f0 f ds:=by
 induction r with
 |start=>exact⟨fun _ _=>rfl,fun d h=>(by cases h), .nil,fun d h=>(by cases h),fun q h1 h2=>by rw[h1]at h2;cases h2⟩
 |@round done f W gs ds r R ih=>
  have mem:∀d∈ds,d.pairs∈gs:=fun d h=>by rw[←R.CH];exact List.mem_map.mpr ⟨d,h,rfl⟩
  have op:∀d∈ds,∀q∈d.pairs,(lf f q).isSome=true:=fun d h q hq=>(R.told.mem (mem d h) hq).open
  refine⟨fun q h=>?_,fun d h q hq=>?_,?_,fun d h=>?_,fun q h1 h2=>?_⟩
  ·rw[oT]at h⊢;split at h
   ·cases h
   ·rename_i hn
    rw[Zm hn];exact ih.sub q h
  ·rw[oT];rcases List.mem_append.mp h with h|h
   ·obtain⟨h1,h2⟩:=ih.shut d h q hq;exact⟨by split;rfl;exact h1,h2⟩
   ·rw[Zp (List.mem_flatten.mpr ⟨_,mem d h,hq⟩)];have:=op d h q hq;exact⟨rfl,by rw[←ih.sub q this];exact this⟩
  ·refine List.pairwise_append.mpr ⟨ih.ap,?_,fun a ha b hb q hq Fh=>?_⟩
   ·have:=R.told.apart;rw[←R.CH,List.pairwise_map]at this;exact this
   ·have h1:=(ih.shut a ha q hq).1;have h2:=op b hb q Fh;rw[h1]at h2;cases h2
  ·rcases List.mem_append.mp h with h|h
   ·exact ih.qu d h
   ·exact⟨R.told.qu _ (mem d h),R.told.ne _ (mem d h)⟩
  ·rw[oT]at h1;by_cases hm:q∈gs.flatten
   ·obtain⟨ps,Di,hq⟩:=List.mem_flatten.mp hm;rw[←R.CH]at Di;obtain⟨d,hd,rfl⟩:=List.mem_map.mp Di;exact⟨d,List.mem_append_right _ hd,hq⟩
   ·rw[Zm hm]at h1;obtain⟨d,hd,hq⟩:=ih.gone q h1 h2;exact⟨d,List.mem_append_left _ hd,hq⟩
theorem tH(f:Nat→Nat→Option Int)(o p:Int):∀i j v,Bq f o p i j=some v→∃e,dC f o p (cI f o p i j).1 (cI f o p i j).2=some e∧v=e-(o*((i:Int)-1-(cI f o p i j).1)+p*((j:Int)-1-(cI f o p i j).2))
 |0,j,v,h=>by rw[iG]at h;cases h
 |i+1,0,v,h=>by unfold Bq at h;cases h
 |i+1,j+1,v,hB=>by
  unfold cI;by_cases h1:dC f o p i j=Bq f o p (i+1) (j+1)
  ·rw[Zp h1];refine⟨v,by rw[h1,hB],?_⟩;have e1:((i+1:Nat):Int)-1-((i,j).1:Int)=0:=by show((i+1:Nat):Int)-1-(i:Int)=0;omega
   have e2:((j+1:Nat):Int)-1-((i,j).2:Int)=0:=by show((j+1:Nat):Int)-1-(j:Int)=0;omega
   rw[e1,e2,Int.mul_zero,Int.mul_zero];omega
  ·rw[Zm h1];by_cases h2:bx (Bq f o p i (j+1)) o=Bq f o p (i+1) (j+1)
   ·rw[Zp h2];cases e:Bq f o p i (j+1)with
    |none=>rw[e,hB]at h2;cases h2
    |some v2=>
     rw[e,hB]at h2;have h2:v2-o=v:=by simpa[bx]using h2
     obtain⟨x,hx,hv⟩:=tH f o p i (j+1) v2 e;refine⟨x,hx,?_⟩;have e1:((i+1:Nat):Int)-1-((cI f o p i (j+1)).1:Int)=((i:Int)-1-(cI f o p i (j+1)).1)+1:=Zz;rw[e1,Int.mul_add];omega
   ·rw[Zm h2];have e0:Bq f o p (i+1) (j+1)=oK [dC f o p i j,bx (Bq f o p i (j+1)) o,bx (Bq f o p (i+1) j) p]:=by rw[Bq];rfl
    have key:∀a b c:Option Int,oK [a,b,c]≠a→oK [a,b,c]≠b→c=oK [a,b,c]:=fun a b c=>by
     cases a<;>cases b<;>cases c<;>simp[oK]<;>omega
    have h3:bx (Bq f o p (i+1) j) p=Bq f o p (i+1) (j+1):=by
     rw[e0];exact key _ _ _ (fun z=>h1 (by rw[e0];exact z.symm)) (fun z=>h2 (by rw[e0];exact z.symm))
    cases e:Bq f o p (i+1) j with
    |none=>rw[e,hB]at h3;cases h3
    |some v2=>
     rw[e,hB]at h3;have h3:v2-p=v:=by simpa[bx]using h3
     obtain⟨x,hx,hv⟩:=tH f o p (i+1) j v2 e;refine⟨x,hx,?_⟩;have e1:((j+1:Nat):Int)-1-((cI f o p (i+1) j).2:Int)=((j:Int)-1-(cI f o p (i+1) j).2)+1:=Zz;rw[e1,Int.mul_add];omega
termination_by i j=>(i,j)
theorem Hh(f:Nat→Nat→Option Int)(o p:Int):∀(k i j:Nat)(v:Int),i≤k→dC f o p i j=some v→Wy (lf f) ((eG f o p i i j).map aR)∧lstP ((eG f o p i i j).map aR)=aR (i,j)∧vl (lf f) o p ((eG f o p i i j).map aR)=v∧(eG f o p i i j).map (fun q=>dC f o p q.1 q.2)=(Z6 (lf f) o p ((eG f o p i i j).map aR)).map some:=by
 intro k
 induction k with
 |zero=>
  intro i j v hi he;have:i=0:=Zz;subst this;rw[gQ (fun h=>by rw[iG]at h;cases h)];have hw:f 0 j=some v:=by
   unfold dC at he;rw[iG]at he;cases e:f 0 j with
   |none=>rw[e]at he;cases he
   |some w=>rw[e]at he;exact he
  have hl:lf f (aR (0,j))=some v:=by rw[←hw];exact qr f 0 j
  refine⟨.one (by rw[hl];rfl),rfl,by simp[vl,hl],?_⟩;simp[Z6,vl,hl,he]
 |succ k ih=>
  intro i j v hi he;by_cases hg:gN (Bq f o p i j)=true
  ·obtain⟨a1,a2,a3⟩:=j9 hg;obtain⟨l1,l2⟩:=(kE f o p i j a1 a2).resolve_right a3;rw[vF hg,List.map_append,List.map_append];cases eb:Bq f o p i j with
   |none=>exact absurd eb a3
   |some b=>
    obtain⟨x,hx,hb⟩:=tH f o p i j b eb;obtain⟨w1,w2,w3,w4⟩:=ih _ _ x (Zz) hx;have YA:0≤b:=by rw[eb]at hg;simpa[gN]using hg
    have hw:∃w,f i j=some w∧v=w+b:=by
     unfold dC at he;rw[eb]at he;cases e:f i j with
     |none=>rw[e]at he;cases he
     |some w=>
      rw[e]at he;simp only[GQ,show ¬b<0 by omega,if_false,Option.some.injEq]at he;exact⟨w,rfl,Zz⟩
    obtain⟨w,hw,hv⟩:=hw;have hl:lf f (aR (i,j))=some w:=by rw[←hw];exact qr f i j
    have st:Z0 (lstP ((eG f o p (cI f o p i j).1 (cI f o p i j).1 (cI f o p i j).2).map aR)) (aR (i,j)):=by
     rw[w2];exact⟨by simp[aR];omega,by simp[aR];omega⟩
    have ev:vl (lf f) o p ((eG f o p (cI f o p i j).1 (cI f o p i j).1 (cI f o p i j).2).map aR++[aR (i,j)])=v:=by
     rw[oN _ _ _ w1.ne,w2,w3,hl];simp only[gp,Option.getD_some];have e1:(aR (i,j)).1-(aR ((cI f o p i j).1,(cI f o p i j).2)).1-1=(i:Int)-1-(cI f o p i j).1:=by show(i:Int)-((cI f o p i j).1:Int)-1=_;omega
     have e2:(aR (i,j)).2-(aR ((cI f o p i j).1,(cI f o p i j).2)).2-1=(j:Int)-1-(cI f o p i j).2:=by show(j:Int)-((cI f o p i j).2:Int)-1=_;omega
     rw[e1,e2];omega
    refine⟨w1.snoc (by rw[hl];rfl) st,dH,ev,?_⟩;show _++[dC f o p i j]=(Z6 (lf f) o p (_++[aR (i,j)])).map some;rw[Fl,List.map_append,w4,he];show _++[some v]=_++[some _];rw[ev]
  ·rw[gQ hg];have hw:f i j=some v:=by
    unfold dC at he;cases e:f i j with
    |none=>rw[e]at he;cases he
    |some w=>
     rw[e]at he;cases eb:Bq f o p i j with
     |none=>rw[eb]at he;exact he
     |some b=>
      rw[eb]at he hg;have:b<0:=by
       have:¬0≤b:=fun z=>hg (by simpa[gN]using z)
       omega
      simp only[GQ,this,if_true]at he;exact he
   have hl:lf f (aR (i,j))=some v:=by rw[←hw];exact qr f i j
   refine⟨.one (by rw[hl];rfl),rfl,by simp[vl,hl],?_⟩;simp[Z6,vl,hl,he]
def Hi(f:Nat→Nat→Option Int)(o p:Int)(n m:Nat):Option Int:=oK ((List.range n).map fun i=>oK ((List.range m).map (dC f o p i)))
theorem Fn{f:Nat→Nat→Option Int}{n m:Nat}(t:Df f n m)(o p:Int):fX (fun v=>∃ps,Wy (lf f) ps∧v=vl (lf f) o p ps) (Hi f o p n m):=by
 refine(kC _).Ub (fun v hv=>?_) (fun v hv=>?_)
 ·obtain⟨i,_,h2⟩:=List.mem_map.mp hv;have h3:=kC ((List.range m).map (dC f o p i));rw[h2]at h3;obtain⟨j,_,h4⟩:=List.mem_map.mp h3.1;obtain⟨as,a1,_,a3⟩:=mq h4;exact⟨as,a1,a3.symm⟩
 ·obtain⟨ps,w,rfl⟩:=hv;obtain⟨i,j,hl,hi,hj⟩:=jS t w (c_ w.ne);obtain⟨b,hb,hle⟩:=w6 (o:=o) (p:=p) w hl;have h3:=kC ((List.range m).map (dC f o p i));have n6:some b∈(List.range m).map (dC f o p i):=List.mem_map.mpr ⟨j,by simpa using hj,hb⟩;cases e:oK ((List.range m).map (dC f o p i))with
  |none=>rw[e]at h3;exact absurd n6 (h3 b)
  |some u=>
   rw[e]at h3;refine⟨u,List.mem_map.mpr ⟨i,by simpa using hi,e⟩,?_⟩;have:=h3.2 b n6;omega
theorem CI{f:Nat→Nat→Option Int}{o p W:Int}(T:dQ f o p W){n m:Nat}(t:Df f n m){a b:Pr}(h:gL f o p W a b):∃i j:Nat,dC f o p i j=some W∧i<n∧j<m∧gL f o p W a (aR (i,j)):=by
 obtain⟨ps,w,hm⟩:=h.on;obtain⟨i,j,hl,hi,hj⟩:=jS t w.1 (c_ w.1.ne);obtain⟨v,hb,hle⟩:=w6 (o:=o) (p:=p) w.1 hl;obtain⟨as,a1,_,a3⟩:=mq hb;have:=T _ a1;have hW:=w.2;refine⟨i,j,by rw[hb];congr 1;omega,hi,hj, .way ps w hm ?_⟩;rw[←hl];exact c_ w.1.ne
def ux(n m:Nat):List Pr:=(List.range n).flatMap fun i=>(List.range m).map fun j=>aR (i,j)
theorem oU(n m:Nat):(ux n m).length=n*m:=by
 unfold ux
 induction n with
 |zero=>simp
 |succ n ih=>
  rw[List.range_succ,List.flatMap_append,List.length_append,ih,Nat.succ_mul];simp
theorem oV{n m i j:Nat}(hi:i<n)(hj:j<m):aR (i,j)∈ux n m:=List.mem_flatMap.mpr ⟨i,by simpa using hi,List.mem_map.mpr ⟨j,by simpa using hj,rfl⟩⟩
theorem Told.sI{E:Pr→Pr→Prop}{gs:List (List Pr)}{n m:Nat}(t:Told E gs)(h:∀g∈gs,∀a∈g,∃i j:Nat,a=aR (i,j)∧i<n∧j<m):gs.length≤n*m:=by
 have hf:∀g∈gs,la g∈g:=fun g hg=>by
  cases e:g with
  |nil=>exact absurd e (t.ne g hg)
  |cons a r=>simp[la]
 have:=len_sub (gs.map la) (ux n m) (List.pairwise_map.mpr (List.Pairwise.imp_of_mem (fun{a b} ha hb E6 e=>E6 (la a) (hf a ha) (by rw[e];exact hf b hb)) t.apart)) fun x hx=>by
  obtain⟨g,hg,rfl⟩:=List.mem_map.mp hx;obtain⟨i,j,e,hi,hj⟩:=h g hg _ (hf g hg);rw[e];exact oV hi hj
 rw[List.length_map,oU]at this;exact this
structure vG(P:Addr→Prop)(H:Hp)(CF a:Addr)(d:Fd)(dy wy rw pr:Addr)(kZ ik:List V):Prop where
 ob:H a=some (.ins CF dy (mU d.worth wy rw pr))
 hw:H wy=some (.lst kZ)
 pw:gI H kZ d.way
 hr:H rw=some (.lst (d.row.map V.int))
 hp:H pr=some (.lst ik)
 pp:gI H ik d.pairs
 fa:P a
 fw:P wy
 fr:P rw
 fp:P pr
def cb(P:Addr→Prop)(H:Hp)(CF:Addr)(us:List V)(ds:List Fd):Prop:=us.length=ds.length∧∀(k:Nat) d,ds[k]?=some d→∃a dy wy rw pr kZ ik,us[k]?=some (V.ref a)∧vG P H CF a d dy wy rw pr kZ ik
theorem vG.keep{P P':Addr→Prop}{H H':Hp}{CF a:Addr}{d:Fd}{dy wy rw pr:Addr}{kZ ik:List V}(F:vG P H CF a d dy wy rw pr kZ ik)(h:∀b o,P b→H b=some o→H' b=some o)(t:dG H H')(hP:∀b,P b→P' b):vG P' H' CF a d dy wy rw pr kZ ik:=
 ⟨h _ _ F.fa F.ob,h _ _ F.fw F.hw,F.pw.cD t,h _ _ F.fr F.hr,h _ _ F.fp F.hp,F.pp.cD t,hP _ F.fa,hP _ F.fw,hP _ F.fr,hP _ F.fp⟩
theorem cb.keep{P P':Addr→Prop}{H H':Hp}{CF:Addr}{us:List V}{ds:List Fd}(F:cb P H CF us ds)(h:∀b o,P b→H b=some o→H' b=some o)(t:dG H H')(hP:∀b,P b→P' b):cb P' H' CF us ds:=
 ⟨F.1,fun k d e=>let ⟨a,dy,wy,rw,pr,kZ,ik,h1,h2⟩:=F.2 k d e;⟨a,dy,wy,rw,pr,kZ,ik,h1,h2.keep h t hP⟩⟩
theorem cb.nil{P:Addr→Prop}{H:Hp}{CF:Addr}:cb P H CF [] []:=⟨rfl,fun k d e=>by simp at e⟩
theorem cb.append{P:Addr→Prop}{H:Hp}{CF:Addr}{us vs:List V}{ds es:List Fd}(F:cb P H CF us ds)(G:cb P H CF vs es):cb P H CF (us++vs) (ds++es):=by
 refine⟨by rw[List.length_append,List.length_append,F.1,G.1],fun k d e=>?_⟩;by_cases hk:k<ds.length
 ·rw[List.getElem?_append_left hk]at e;rw[List.getElem?_append_left (by rw[F.1];exact hk)];exact F.2 k d e
 ·rw[List.getElem?_append_right Zw]at e;rw[List.getElem?_append_right (by rw[F.1];omega),F.1];exact G.2 _ d e
inductive tI(CT:Addr)(vs:List V)(H:Hp)(Q:VK)(u3:XK):Prop
 |mk (f g t:Addr) (v:V) (c:Case) (shut:List Pr) (_:vs=[.ref f, .ref g, .ref t,v]) (_:H f=some (.lst (c.xs.map V.str))) (_:H g=some (.lst (c.ys.map V.str))) (_:yv H CT t c) (_:Ex H v shut) (_:shut.length≤1000) (_:c.xs.length≤1000) (_:c.ys.length≤1000) (_:∀H' e as,ax H H'→H' e=some (.lst (as.map V.ref))→H e=none→i7 H' as (ju c shut) c.xs.length c.ys.length→as.Nodup→e∉as→(∀a∈as,H a=none)→Q (.ref e) H'):tI CT vs H Q u3
inductive oW(CT CF:Addr)(vs:List V)(H:Hp)(Q:VK)(u3:XK):Prop
 |mk (w t:Addr) (as:List Addr) (c:Case) (f:Nat→Nat→Option Int) (n m:Nat) (_:vs=[.ref w, .ref t]) (_:H w=some (.lst (as.map V.ref))) (_:i7 H as f n m) (_:yv H CT t c) (_:Df f n m) (_:n*m≤3000) (_:n≤1000) (_:m≤1000)
  (_:Stop f c.out c.into c.least→∀H' r,ax H H'→H r=none→H' r=some (.lst [])→Q (.ref r) H')
  (_:∀W gs ds,gX f c.out c.into c.least W gs ds→gs≠[]→∀H' r us,ax H H'→H r=none→H' r=some (.lst us)→cb (fun b=>H b=none) H' CF us ds→Q (.ref r) H'):oW CT CF vs H Q u3
inductive tJ(CF:Addr)(vs:List V)(H:Hp)(Q:VK)(u3:XK):Prop
 |mk (w md:Addr) (as:List Addr) (us:List V) (ds:List Fd) (f:Nat→Nat→Option Int) (n m:Nat) (_:vs=[.ref w, .ref md]) (_:H w=some (.lst (as.map V.ref))) (_:as.Nodup) (_:w∉as) (_:i7 H as f n m) (_:H md=some (.lst us)) (_:md∉as) (_:cb (fun b=>b∉as) H CF us ds) (_:∀d∈ds,∀q∈d.pairs,∃i j:Nat,q=aR (i,j)∧i<n∧j<m)
  (_:∀H',(∀b o,b∉as→H b=some o→H' b=some o)→dG H H'→i7 H' as (fE f (ds.map Fd.pairs).flatten) n m→Q .cN H'):tJ CF vs H Q u3
def Lh(a b:Fd):Bool:=if a.worth=b.worth then jw (la a.pairs) (la b.pairs)else decide (b.worth<a.worth)
structure bN(f0:Nat→Nat→Option Int)(o p least:Int)(es:List Fd):Prop where
 PD:∃ds f,Reach f0 o p least ds f∧Stop f o p least∧es.Perm ds
 sI:es.length≤20
 qu:es.Pairwise fun a b=>Lh a b=true
inductive w9(CT CF CX:Addr)(vs:List V)(H:Hp)(Q:VK)(E:XK):Prop
 |mk (a b t:Addr) (c:Case) (_:vs=[.ref a, .ref b, .ref t]) (_:H a=some (.lst (c.xs.map V.str))) (_:H b=some (.lst (c.ys.map V.str))) (_:yv H CT t c) (_:c.xs.length≤50) (_:c.ys.length≤50)
  (_:∀es,bN (ju c []) c.out c.into c.least es→∀H' r us,ax H H'→H r=none→H' r=some (.lst us)→cb (fun b=>H b=none) H' CF us es→Q (.ref r) H')
  (_:∀ds f,Reach (ju c []) c.out c.into c.least ds f→20<ds.length→∀H',ax H H'→E (.ref CX) none H'):w9 CT CF CX vs H Q E
def Fo(c:Case)(i m:Nat):Nat:=((List.range m).filter fun j=>(c.pw (aR (i,j))).isSome).length
def manyN(c:Case):Nat→Nat
 |0=>0
 |n+1=>manyN c n+Fo c n c.ys.length
theorem CJ(c:Case)(i m:Nat):Fo c i (m+1)=Fo c i m+if (c.pw (aR (i,m))).isSome=true then 1 else 0:=by
 unfold Fo;rw[List.range_succ,List.filter_append,List.length_append]
 congr 1
 by_cases h:(c.pw (aR (i,m))).isSome=true
 ·rw[Zp h,List.filter_cons,Zp h];rfl
 ·rw[Zm h,List.filter_cons,Zm h];rfl
theorem tK(c:Case):∀n,((ux n c.ys.length).filter fun q=>(c.pw q).isSome).length=manyN c n
 |0=>rfl
 |n+1=>by
  unfold ux;rw[List.range_succ,List.flatMap_append,List.filter_append,List.length_append];have ih:=tK c n;unfold ux at ih;rw[ih,manyN]
  congr 1
  simp only[List.flatMap_cons,List.flatMap_nil,List.append_nil];rw[List.filter_map,List.length_map];rfl
def bV(c:Case):Nat:=manyN c c.xs.length/21+1
def eJ(c:Case):Int:=min c.same (999999/(bV c:Int))
def gf(c:Case):Case:={c with same:=eJ c,least:=max c.least (((bV c:Int)-1)*eJ c+1)}
theorem Aq(s t:Int)(fs:List Form)(x y:Str):(dB s fs x y).isSome=(dB t fs x y).isSome:=by
 unfold dB;split
 ·rfl
 ·simp
theorem CK(c:Case)(q:Pr):((gf c).pw q).isSome=(c.pw q).isSome:=by
 unfold Case.pw;show((wd c.xs q.1).bind fun x=>(wd c.ys q.2).bind fun y=>dB (gf c).same c.fs x y).isSome=_;cases wd c.xs q.1 with
 |none=>rfl
 |some x=>
  cases wd c.ys q.2 with
  |none=>rfl
  |some y=>exact Aq _ _ _ _ _
theorem CL{fs:List Form}(g:bM fs=true){x y:Str}{p:Int}(h:dU fs x y=some p):0≤p:=by
 unfold dU at h;cases e:fs.find? fun f=>decide (f.1=x∧f.2.1=y)with
 |none=>rw[e]at h;cases h
 |some f=>
  rw[e]at h;have h:f.2.2=p:=by simpa using h
  have hm:=List.mem_of_find?_eq_some e;simp only[bM,Bool.and_eq_true,List.all_eq_true]at g;have:=g.1.2 f hm;simp only[De,iz,inR,Bool.and_eq_true,decide_eq_true_eq]at this;omega
theorem pw_le{c:Case}(g:bM c.fs=true){q:Pr}{w:Int}(h:c.pw q=some w):w≤c.same:=by
 unfold Case.pw at h;cases e1:wd c.xs q.1 with
 |none=>rw[e1]at h;cases h
 |some x=>
  cases e2:wd c.ys q.2 with
  |none=>rw[e1,e2]at h;cases h
  |some y=>
   rw[e1,e2]at h;have h:dB c.same c.fs x y=some w:=h;unfold dB at h;split at h
   ·cases h;exact Int.le_refl _
   ·cases e3:dU c.fs x y with
    |none=>rw[e3]at h;cases h
    |some p=>
     rw[e3]at h;have h:c.same-p=w:=by simpa using h
     have:=CL g e3;omega
theorem BG(c:Case)(n:Nat):manyN c n≤n*c.ys.length:=by
 rw[←tK,←oU];exact List.length_filter_le _ _
theorem BH{m:Nat}{c:Case}(k:dW m c)(hm:m≤60):dW m (gf c):=by
 have h1:manyN c c.xs.length≤3600:=by
  have:=BG c c.xs.length;have h2:=Nat.mul_le_mul (Nat.le_trans k.x hm) (Nat.le_trans k.y hm);omega
 have he:(1:Int)≤bV c∧(bV c:Int)≤172:=by unfold bV;omega
 have hq:(bV c:Int)*(999999/(bV c:Int))≤999999:=by
  have:=Int.mul_ediv_self_le (x:=999999) (k:=(bV c:Int)) (Zz);exact this
 have N_:1≤999999/(bV c:Int):=by
  have:(172:Int)≤999999:=ZA;exact(Int.le_ediv_iff_mul_le Zw).mpr Zw
 have hs:=k.same;have hl:=k.least;have s1:1≤eJ c∧eJ c≤999999∧eJ c≤999999/(bV c:Int):=by unfold eJ;omega
 refine⟨k.x,k.y,k.good,⟨s1.1,s1.2.1⟩,k.out,k.into,?_⟩;show 1≤max c.least (((bV c:Int)-1)*eJ c+1)∧max c.least (((bV c:Int)-1)*eJ c+1)≤999999;have h3:((bV c:Int)-1)*eJ c+1≤999999:=by
  have h4:(bV c:Int)*eJ c≤(bV c:Int)*(999999/(bV c:Int)):=Int.mul_le_mul_of_nonneg_left s1.2.2 Zw;rw[Int.sub_mul];omega
 omega
theorem iq{g g':Pr→Option Int}(o p:Int):∀{ps:List Pr},(∀q∈ps,g q=g' q)→vl g o p ps=vl g' o p ps
 |[],_=>rfl
 |[a],h=>by simp only[vl];rw[h a (ZD)]
 |a::b::r,h=>by
  have ih:=iq (g:=g) (g':=g') o p (ps:=b::r) fun q hq=>h q (by simp[hq])
  simp only[vl];rw[ih,h a (ZD)]
theorem CM{g g':Pr→Option Int}(o p:Int){ps:List Pr}(h:∀q∈ps,g q=g' q):Z6 g o p ps=Z6 g' o p ps:=by
 unfold Z6;apply List.map_congr_left;intro k _;exact iq o p fun q hq=>h q (List.mem_of_mem_take hq)
theorem Wy.congr{g g':Pr→Option Int}{ps:List Pr}(w:Wy g ps)(h:∀q∈ps,g q=g' q):Wy g' ps:=⟨w.ne,fun q hq=>by rw[←h q hq];exact w.ok q hq,w.up⟩
theorem Li{o p:Int}(ho:0≤o)(hp:0≤p){a b:Pr}(s:Z0 a b):0≤gp o p a b:=by
 have h1:=s.1;have h2:=s.2;have:=Int.mul_nonneg ho (show 0≤b.1-a.1-1 by omega);have:=Int.mul_nonneg hp (show 0≤b.2-a.2-1 by omega);unfold gp;omega
theorem IP{g:Pr→Option Int}{o p S:Int}(ho:0≤o)(hp:0≤p):∀{ps:List Pr},ps.Pairwise Z0→(∀q∈ps,∃w,g q=some w∧w≤S)→vl g o p ps≤ps.length*S
 |[],_,_=>by simp[vl]
 |[a],_,h=>by
  obtain⟨w,h1,h2⟩:=h a (ZD);simp[vl,h1,h2]
 |a::b::r,hs,h=>by
  have mS:=List.pairwise_cons.mp hs;have ih:=IP ho hp mS.2 fun q hq=>h q (by simp[hq])
  obtain⟨w,h1,h2⟩:=h a (ZD);have:=Li ho hp (mS.1 b (ZD));simp only[vl,h1,Option.getD_some];have e:((a::b::r).length:Int)*S=((b::r).length:Int)*S+S:=by
   rw[List.length_cons (as:=b::r),Int.natCast_add,Int.add_mul];simp
  rw[e];omega
structure Oa(f0:Nat→Nat→Option Int)(o p least:Int)(d:Fd):Prop where
 way:Wy (lf f0) d.way
 worth:vl (lf f0) o p d.way=d.worth
 least:least≤d.worth
 row:d.row=Z6 (lf f0) o p d.way
 sub:∀q∈d.way,q∈d.pairs
 qu:d.pairs.Pairwise fun p q=>jw p q=true
 op:∀q∈d.pairs,(lf f0 q).isSome=true
 part:∀a b,d.way=a++b→a≠[]→b≠[]→vl (lf f0) o p a≤d.worth∧vl (lf f0) o p b≤d.worth
theorem Reach.kF{f0 f:Nat→Nat→Option Int}{o p least:Int}{ds:List Fd}(r:Reach f0 o p least ds f):∀d∈ds,Oa f0 o p least d:=by
 induction r with
 |start=>exact fun d h=>by cases h
 |@round done f W gs ds r R ih=>
  intro d hd;rcases List.mem_append.mp hd with hd|hd
  ·exact ih d hd
  have ap:=r.apart;have k:=R.ok d hd;have hg:d.pairs∈gs:=by rw[←R.CH];exact List.mem_map.mpr ⟨d,hd,rfl⟩
  have cg:∀q∈d.way,lf f q=lf f0 q:=fun q hq=>ap.sub q (k.way.1.ok q hq)
  refine⟨k.way.1.congr cg,?_,by rw[k.worth];exact R.least,by rw[k.row];exact CM o p cg,k.sub,R.told.qu _ hg,fun q hq=>?_,fun a b e ha hb=>?_⟩
  ·rw[←iq o p cg,k.way.2,k.worth]
  ·have:=(R.told.mem hg hq).open;rw[←ap.sub q this];exact this
  ·have w:=k.way.1;rw[e]at w;rw[←iq o p (fun q hq=>cg q (by rw[e];exact List.mem_append_left _ hq)),←iq o p (fun q hq=>cg q (by rw[e];exact List.mem_append_right _ hq)),k.worth];exact⟨R.top _ (w.left ha),R.top _ (w.right hb)⟩
theorem Reach.met{f0 f:Nat→Nat→Option Int}{o p least:Int}{ds:List Fd}(r:Reach f0 o p least ds f){ws:List Pr}(w:Wy (lf f0) ws):(∀q∈ws,(lf f q).isSome=true)∨∃d∈ds,vl (lf f0) o p ws≤d.worth∧∃q∈ws,q∈d.pairs:=by
 induction r with
 |start=>exact .inl w.ok
 |@round done f W gs ds r R ih=>
  rcases ih with h|⟨d,h1,h2⟩
  ·have ap:=r.apart;by_cases hm:∃q∈ws,q∈gs.flatten
   ·obtain⟨q,hq,hg⟩:=hm;obtain⟨g,Uu,WN⟩:=List.mem_flatten.mp hg;rw[←R.CH]at Uu;obtain⟨d,hd,rfl⟩:=List.mem_map.mp Uu;refine .inr ⟨d,List.mem_append_right _ hd,?_,q,hq,WN⟩;have cg:∀q∈ws,lf f0 q=lf f q:=fun q hq=>(ap.sub q (h q hq)).symm
    rw[iq o p cg,(R.ok d hd).worth];exact R.top _ (w.congr cg)
   ·refine .inl fun q hq=>?_
    rw[oT,Zm (fun z=>hm ⟨q,hq,z⟩)];exact h q hq
  ·exact .inr ⟨d,List.mem_append_left _ h1,h2⟩
theorem bN.met{f0:Nat→Nat→Option Int}{o p least:Int}{es:List Fd}(t:bN f0 o p least es){ws:List Pr}(w:Wy (lf f0) ws)(h:least≤vl (lf f0) o p ws):∃d∈es,vl (lf f0) o p ws≤d.worth∧∃q∈ws,q∈d.pairs:=by
 obtain⟨ds,f,r,st,pm⟩:=t.PD;rcases r.met w with z|⟨d,h1,h2⟩
 ·exfalso;have cg:∀q∈ws,lf f0 q=lf f q:=fun q hq=>(r.apart.sub q (z q hq)).symm
  have:=st ws (w.congr cg);rw[←iq o p cg]at this;omega
 ·exact⟨d,pm.mem_iff.mpr h1,h2⟩
theorem bN.kF{f0:Nat→Nat→Option Int}{o p least:Int}{es:List Fd}(t:bN f0 o p least es):∀d∈es,Oa f0 o p least d:=fun d hd=>by
 obtain⟨ds,f,r,_,pm⟩:=t.PD;exact r.kF d (pm.mem_iff.mp hd)
theorem bN.apart{f0:Nat→Nat→Option Int}{o p least:Int}{es:List Fd}(t:bN f0 o p least es):es.Pairwise fun a b=>∀q∈a.pairs,q∉b.pairs:=by
 obtain⟨ds,f,r,_,pm⟩:=t.PD;exact(pm.pairwise_iff fun{a b} h q hq Fh=>h q Fh hq).mpr r.apart.ap
theorem Fp{l:List (List Pr)}{k:Nat}(h:∀x∈l,k≤x.length):l.length*k≤l.flatten.length:=by
 induction l with
 |nil=>simp
 |cons a r ih=>
  have h1:=h a (ZD);have h2:=ih fun x hx=>h x (by simp[hx])
  rw[List.flatten_cons,List.length_append,List.length_cons,Nat.succ_mul];omega
theorem nB:∀{ds:List Fd},ds.Pairwise (fun a b=>∀q∈a.pairs,q∉b.pairs)→(∀d∈ds,d.pairs.Nodup)→(ds.map Fd.pairs).flatten.Nodup
 |[],_,_=>ZD
 |d::r,h,h2=>by
  have h':=List.pairwise_cons.mp h;rw[List.map_cons,List.flatten_cons];refine List.nodup_append.mpr ⟨h2 d (ZD),nB h'.2 fun x hx=>h2 x (by simp[hx]),fun a ha b hb e=>?_⟩;obtain⟨ps,hp,hq⟩:=List.mem_flatten.mp hb;obtain⟨x,hx,rfl⟩:=List.mem_map.mp hp;exact h'.1 x hx a ha (by rw[e];exact hq)
theorem qB{ps:List Pr}(h:ps.Pairwise fun p q=>jw p q=true):ps.Nodup:=h.imp fun{a b} h e=>by
 rw[e]at h;unfold jw at h;simp at h
theorem As(c:Case)(q:Pr):lf (ju c []) q=c.pw q:=by
 rw[wL];simp[n8]
theorem Fq{m:Nat}{c:Case}(k:dW m (gf c)){ds:List Fd}{f:Nat→Nat→Option Int}(r:Reach (ju (gf c) []) (gf c).out (gf c).into (gf c).least ds f):ds.length≤20:=by
 have each:∀d∈ds,bV c≤d.pairs.length:=fun d hd=>by
  have F:=r.kF d hd;have h1:=IP (g:=lf (ju (gf c) [])) (S:=(gf c).same) k.out.1 k.into.1 F.way.up fun q hq=>by
   obtain⟨w,hw⟩:=Option.isSome_iff_exists.mp (F.way.ok q hq);refine⟨w,hw,?_⟩;rw[As]at hw;exact pw_le k.good hw
  rw[F.worth]at h1;have h2:=F.least;have h3:((bV c:Int)-1)*eJ c+1≤(gf c).least:=by show _≤max c.least _;omega
  have hs:1≤eJ c:=k.same.1;have h4:((bV c:Int)-1)*eJ c<(d.way.length:Int)*eJ c:=by
   have:(gf c).same=eJ c:=rfl;rw[this]at h1;omega
  have h5:(bV c:Int)-1<(d.way.length:Int):=Int.lt_of_mul_lt_mul_right h4 Zw;have h6:=len_sub d.way d.pairs (F.way.up.imp fun{a b} h e=>by
   rw[e]at h;have:=h.1;omega) F.sub
  omega
 have h1:=Fp (l:=ds.map Fd.pairs) (k:=bV c) fun x hx=>by
  obtain⟨d,hd,rfl⟩:=List.mem_map.mp hx;exact each d hd
 have h2:=nB r.apart.ap fun d hd=>qB (r.kF d hd).qu
 have h3:=len_sub _ ((ux c.xs.length c.ys.length).filter fun q=>(c.pw q).isSome) h2 fun q hq=>by
  obtain⟨ps,hp,hq⟩:=List.mem_flatten.mp hq;obtain⟨d,hd,rfl⟩:=List.mem_map.mp hp;have:=(r.kF d hd).op q hq;rw[As,CK]at this;refine List.mem_filter.mpr ⟨?_,this⟩;obtain⟨w,hw⟩:=Option.isSome_iff_exists.mp this;obtain⟨⟨a1,a2⟩,a3,a4⟩:=c.pw_in hw;have:=oV (n:=c.xs.length) (m:=c.ys.length) (i:=q.1.toNat) (j:=q.2.toNat) (Zz) (Zz);have e:aR (q.1.toNat,q.2.toNat)=q:=Prod.ext (by simp[aR];omega) (by simp[aR];omega);rw[e]at this;exact this
 rw[tK]at h3;rw[List.length_map]at h1;have h4:ds.length*bV c≤manyN c c.xs.length:=Nat.le_trans h1 h3;rcases Nat.lt_or_ge 20 ds.length with h|h
 ·exfalso;have h5:21*bV c≤ds.length*bV c:=Nat.mul_le_mul_right _ h;unfold bV at h4 h5;omega
 ·exact h
inductive w_(vs:List V)(H:Hp)(Q:VK)(u3:XK):Prop
 |mk (a:Addr) (c:Case) (f g m l:Addr) (us:List V) (_:vs=[.ref a]) (_:jt H a c f g m l us) (_:dW 60 c) (_:∀H' b m',ax H H'→H b=none→H' b=some (.lst [.ref f, .ref g, .ref m', .ref l])→jt H' b (gf c) f g m' l us→Q (.ref b) H'):w_ vs H Q u3
end QF
namespace QF
open PySem L2 PySem.Spec PyProof.Rows PySem.W PySem.Calls
section
variable{X:Cx}
inductive Ob(K:Frag)(neg:Bool)(x:V)(y:V)(H:Hp)(Q:VK):Prop
 |mk (p q:Addr) (r:Pr) (vs:List V) (ps:List Pr) (_:x= .ref p) (_:y= .ref q) (_:H p=some (.tup (jr r))) (_:iC K H q vs) (_:gI H vs ps) (_:Q (.bl (xor neg (decide (r∈ps)))) H):Ob K neg x y H Q
open Classical in
theorem Fs{pins:List (Addr×Obj)}{s:Shared}{σ:L2.St}{H:Hp}{p q:Addr}{r:Pr}{vs:List V}{ps:List Pr}(hu:X.A.units+1<cLine)(I:Inv X pins σ H s)(hp:H p=some (.tup (jr r)))(hq:iC X.K H q vs)(P:gI H vs ps):
  ∃(its:List Value)(e:Value→Bool),s.heap.IsList q its.toArray∧(∀y∈its.toArray,SeqAt.EqAt X.A.in1 s y (.ref p) (e y))∧its.toArray.any e=decide (r∈ps):=by
 obtain⟨its,r1,pl,hz⟩:=I.tuple (xs:=jr r) (.of hp);obtain⟨eE,r2,GD,LR⟩:=I.list hq;have lc:=P.1;have l2:=r2.length;have key:∀j,j<eE.length→∃g t,ps[j]?=some g∧eE[j]?=some (.ref t)∧H t=some (.tup (jr g)):=fun j hj=>by
  have hc:ps[j]?=some ps[j]:=by simp[show j<ps.length by omega]
  obtain⟨t,h1,h2⟩:=P.2 j _ hc;obtain⟨u,eu,ru⟩:=r2.get h1;cases ru;exact⟨_,t,hc,eu,h2⟩
 let e:Value→Bool:=fun y=>decide (∃t,y=Value.ref t∧H t=some (.tup (jr r)))
 have ee:∀{t g},H t=some (.tup (jr g))→e (.ref t)=decide (g=r):=fun{t g} h=>by
  show decide _=_;rw[Bool.eq_iff_iff,decide_eq_true_iff,decide_eq_true_iff];constructor
  ·rintro⟨t',e1,e2⟩;cases e1;rw[h]at e2;have:=HO.tup.inj (Zt e2);simp only[jr,List.cons.injEq,V.int.injEq,and_true]at this;exact Prod.ext this.1 this.2
  ·rintro rfl;exact⟨t,rfl,h⟩
 refine⟨eE,e,GD.isList,fun y hy=>?_,?_⟩
 ·obtain⟨j,hj,rfl⟩:=Array.mem_iff_getElem.mp hy;have Dh:j<eE.length:=by simpa using hj
  obtain⟨g,t,h1,h2,h3⟩:=key j Dh;have ej:eE.toArray[j]= .ref t:=by
   have:=(Y' h2).2;simpa using this
  rw[ej,ee h3];by_cases hn:t=p
  ·subst hn;rw[hp]at h3;have:=HO.tup.inj (Zt h3);simp only[jr,List.cons.injEq,V.int.injEq,and_true]at this;have:r=g:=Prod.ext this.1 this.2;rw[decide_eq_true this.symm];exact SeqAt.EqAt.same _
  ·obtain⟨Oc,r3,RZ,WO⟩:=I.tuple (xs:=jr g) (.of h3);have:=SeqAt.EqAt.of_refs hn (SeqAt.RcAt.tuples (A:=X.A.in1) RZ pl (show X.A.in1.units<cLine from hu) (sW r3 r1 rfl rfl));rw[←wJ,←kz,r3.length,r1.length];simpa using this
 ·rw[Bool.eq_iff_iff,Array.any_eq_true,decide_eq_true_iff];constructor
  ·rintro⟨j,hj,hh⟩;have Dh:j<eE.length:=by simpa using hj
   obtain⟨g,t,h1,h2,h3⟩:=key j Dh;have ej:eE.toArray[j]= .ref t:=by
    have:=(Y' h2).2;simpa using this
   rw[ej,ee h3,decide_eq_true_iff]at hh;rw[←hh];exact Zk h1
  ·intro hm;obtain⟨j,hj,hg⟩:=List.mem_iff_getElem.mp hm;have Dh:j<eE.length:=Zz;obtain⟨g,t,h1,h2,h3⟩:=key j Dh;refine⟨j,by simpa using Dh,?_⟩;have ej:eE.toArray[j]'(by simpa using Dh)= .ref t:=by
    have:=(Y' h2).2;simpa using this
   rw[ej,ee h3,decide_eq_true_iff];rw[List.getElem?_eq_getElem hj,hg]at h1;exact(Zt h1).symm
theorem mV(K:Frag)(hu:X.A.units+1<cLine)(hK:X.K=K:=by rfl):rH X (compareOp .NotIn) (Ob K true):=by
 subst hK;intro pins s σ H x y v u Q I rx ry h;obtain⟨p,q,r,vs,ps,rfl,rfl,hp,hq,P,k⟩:=h;cases rx;cases ry;obtain⟨its,e,pl,h1,h2⟩:=Fs hu I hp hq P;refine SeqAt.notIn_listAt e pl h1 ⟨.bl (!decide (r∈ps)),H,I,?_,by simpa using k⟩;rw[h2];rfl
end
end QF
namespace QF
open PySem L2
theorem oM.of{c:Case}{ps:List Pr}(h:kX c ps=true):oM c [] ps:=⟨h,fun p _=>ZD⟩
theorem Hj{c:Case}{ps:List Pr}(h:kX c ps=true):Wy (lf (ju c [])) ps∧dD c ps (ps.length-1)=vl (lf (ju c [])) c.out c.into ps:=⟨yA.mp (.of h),GU (.of h)⟩
end QF
namespace L2
open PySem PySem.Spec PyProof.Rows PySem.W PySem.Calls
inductive fK(K:Frag)(x q:Str)(st:Stmt)(f:Addr):Prop
 |mk {oc kV dc pm cd ct:Value} {od an:Option Addr} {sl:Array (Option Value)} (l:K.lookup f=some ⟨oc,od, .func (fnOf x q (fm st) (eI st) (au st) .none kV dc pm an cd ct),sl⟩) (c:codeIn K cd q=true) (k:keepIn K (.ref f)=true):fK K x q st f
theorem BI{Φ:Value→Value→Value→Option Addr→Value→Value→List Value→Prop}(h:∀k d p n c t a,Φ k d p n c t [a])(k d p:Value)(n:Option Addr)(c t:Value)(us:List Value)(e:us.length=1):Φ k d p n c t us:=QF.V' (h k d p n c t) us e
theorem xa{Φ:Value→Value→Value→Option Addr→Value→Value→List Value→Prop}(h:∀k d p n c t a b,Φ k d p n c t [a,b])(k d p:Value)(n:Option Addr)(c t:Value)(us:List Value)(e:us.length=2):Φ k d p n c t us:=QF.Wa (h k d p n c t) us e
theorem Au{Φ:Value→Value→Value→Option Addr→Value→Value→List Value→Prop}(h:∀k d p n c t x y z,Φ k d p n c t [x,y,z])(k d p:Value)(n:Option Addr)(c t:Value)(us:List Value)(e:us.length=3):Φ k d p n c t us:=QF.Wb (h k d p n c t) us e
theorem R0{Φ:Value→Value→Value→Option Addr→Value→Value→List Value→Prop}(h:∀k d p n c t x y z u,Φ k d p n c t [x,y,z,u])(k d p:Value)(n:Option Addr)(c t:Value)(us:List Value)(e:us.length=4):Φ k d p n c t us:=QF.Wc (h k d p n c t) us e
theorem Uv{Φ:Value→Value→Value→Option Addr→Value→Value→List Value→Prop}(h:∀k d p n c t x y z u v,Φ k d p n c t [x,y,z,u,v])(k d p:Value)(n:Option Addr)(c t:Value)(us:List Value)(e:us.length=5):Φ k d p n c t us:=QF.Wd (h k d p n c t) us e
theorem WQ{Φ:Value→Value→Value→Option Addr→Value→Value→List Value→Prop}(h:∀k d p n c t x y z u v w,Φ k d p n c t [x,y,z,u,v,w])(k d p:Value)(n:Option Addr)(c t:Value)(us:List Value)(e:us.length=6):Φ k d p n c t us:=QF.We (h k d p n c t) us e
section
variable{P:Program}{w:World}{K:Frag}{mg:Str→Option Value}{base h:Heap}{cm:Bool}{k:Nat}{x q:Str}{st:Stmt}{f C:Addr}{ps:List Str}{sp:Sp}
def PF(x q:Str)(st:Stmt)(ps:List Str):Prop:=∀(kV doc pm:Value)(an:Option Addr)(bR ct:Value)(us:List Value),us.length=ps.length→bindArgs (fnOf x q (fm st) (eI st) (au st) .none kV doc pm an bR ct) ⟨us,[]⟩=pure (ps.zip us)
theorem fK.df(d:fK K x q st f)(X:K.In h)(G:h.Ns mainGlobals mg)(a:nsIn K mainGlobals x=some (some (.ref f)))(ok:∀fd,jn K x q st f fd→aZ P w K mg base (cV P w) cm k f fd ps sp)(b:PF x q st ps):bK P w K mg base cm k x ps sp:=by
 obtain⟨l,c,z⟩:=d;have F:=DZ (st:=st) l c z;exact D9 F (mg_of X G a) (F.binds b) (ok _ F)
theorem fK.ok(d:fK K x q st f){R:FuncData→Prop}(ok:∀fd,iy K x q st f fd→R fd)(b:PF x q st ps):∃fd,R fd∧Binds K fd ps []:=by
 obtain⟨l,c,z⟩:=d;exact⟨_,ok _ (A9 (st:=st) l c z), .all fun us e=>b _ _ _ _ _ _ us e⟩
theorem fK.mt(d:fK K x q st f)(cl:vT K C)(a:findIn K (.ref C) x=some (some (.ref f)))(i:isFn K (.ref f)=true)(ok:∀fd,iy K x q st f fd→aZ P w K mg base (cV P w) cm k f fd ps sp)(b:PF x q st ps):eF P w K mg base cm k C x ps sp:=by
 obtain⟨fd,h1,h2⟩:=d.ok (R:=fun fd=>aZ P w K mg base (cV P w) cm k f fd ps sp) ok b;obtain⟨l,c,z⟩:=d;exact Cc h1 ⟨a,i,z⟩ h2 cl
theorem fK.nw{y:Str}(d:fK K x q st f)(m:mg y=some (.ref C))(g1:makesIn K C=true)(g2:keepIn K (.ref C)=true)(a:findIn K (.ref C) "__init__"=some (some (.ref f)))(i:isFn K (.ref f)=true)(ok:∀fd,iy K x q st f fd→aZ P w K mg base (cV P w) cm k f fd ps sp)(b:PF x q st ps):mQ P w K mg base cm k y C ps [] sp:=by
 obtain⟨fd,h1,h2⟩:=d.ok (R:=fun fd=>aZ P w K mg base (cV P w) cm k f fd ps sp) ok b;exact yq h1 ⟨g1,a,i,g2⟩ m h2 .nil
structure Od(K:Frag)(x:Str)(C:Addr):Prop where
 a:nsIn K mainGlobals x=some (some (.ref C))
 b:excIn K C [.type "ValueError", .type "Exception", .type "BaseException", .type "object"] "ValueError.__new__"=true
 c:findIn K (.ref C) "__class__"=some (some (.builtin "object.__class__"))
 d:mroIn K C (.type "object")=some true
 e:mroIn K C (.type "BaseException")=some true
 f:findIn K (.ref C) "__getattribute__"=some (some (.builtin "BaseException.__getattribute__"))
 g:findIn K (.ref C) "__getattr__"=some none
 h:instIn K (.ref C) (.type "tuple")=some false
 i:keepIn K (.ref C)=true
theorem Od.er{x:Str}{C:Addr}(e:Od K x C)(X:K.In h)(G:h.Ns mainGlobals mg):QF.Er K mg x C:=⟨mg_of X G e.a,e.b,e.c,e.d,e.e,e.f,e.g,e.h,e.i⟩
structure Oe(K:Frag)(x:Str)(C:Addr):Prop where
 a:nsIn K mainGlobals x=some (some (.ref C))
 b:makesIn K C=true
 c:keepIn K (.ref C)=true
def Z9(K:Frag)(x:Str):Prop:=nsIn K mainGlobals x=some none
structure TZ(K:Frag):Prop where
 a:Z9 K "len"
 b:Z9 K "range"
 c:Z9 K "isinstance"
 d:Z9 K "int"
 e:Z9 K "bool"
 f:Z9 K "str"
 g:Z9 K "list"
 h:Z9 K "tuple"
 i:Z9 K "dict"
 j:Z9 K "all"
 k:Z9 K "any"
 l:Z9 K "min"
 m:Z9 K "max"
 n:Z9 K "enumerate"
 o:Z9 K "ValueError"
theorem nC{x:Str}(z:Z9 K x)(X:K.In h)(G:h.Ns mainGlobals mg):mg x=none:=mg_none_of X G z
theorem TZ.tb(z:TZ K)(X:K.In h)(G:h.Ns mainGlobals mg):QF.TB mg:=⟨nC z.a X G,nC z.b X G,nC z.c X G,nC z.d X G,nC z.e X G,nC z.f X G,nC z.g X G,nC z.h X G,nC z.i X G,nC z.j X G,nC z.k X G,nC z.l X G,nC z.m X G,nC z.n X G,nC z.o X G⟩
end
end L2
namespace QF
open PySem L2
def Dn(H:Hp)(us:List V)(ts:List (Pr×Int)):Prop:=us.length=ts.length∧∀(k:Nat)(x:Pr×Int),ts[k]?=some x→∃t,us[k]?=some (V.ref t)∧H t=some (.tup [.int x.1.1, .int x.1.2, .int x.2])
theorem Dn.cD{H H':Hp}{us:List V}{ts:List (Pr×Int)}(S:Dn H us ts)(t:dG H H'):Dn H' us ts:=⟨S.1,fun k x e=>let ⟨a,h1,h2⟩:=S.2 k x e;⟨a,h1,t _ _ h2⟩⟩
theorem Dn.nil{H:Hp}:Dn H [] []:=⟨rfl,fun k x e=>by simp at e⟩
theorem Dn.snoc{H:Hp}{us:List V}{ts:List (Pr×Int)}(S:Dn H us ts){t:Addr}{x:Pr×Int}(h:H t=some (.tup [.int x.1.1, .int x.1.2, .int x.2])):Dn H (us++[.ref t]) (ts++[x]):=by
 refine⟨by simp[S.1],fun k y e=>?_⟩;by_cases hk:k<ts.length
 ·rw[List.getElem?_append_left hk]at e;rw[List.getElem?_append_left (by rw[S.1];exact hk)];exact S.2 k y e
 ·rw[List.getElem?_append_right Zw]at e;have wO:k-ts.length=0:=by
   have:=(Y' e).1;simp at this;omega
  rw[wO]at e;cases e;refine⟨t,?_,h⟩;rw[List.getElem?_append_right (by rw[S.1];omega),S.1,wO];rfl
def lJ(c:Case)(sh:List Pr)(i:Nat):Nat→List (Pr×Int)
 |0=>[]
 |j+1=>lJ c sh i j++match n8 c sh (aR (i,j))with|some w=>[(aR (i,j),w)]|none=>[]
def j_(c:Case)(sh:List Pr):Nat→List (Pr×Int)
 |0=>[]
 |n+1=>j_ c sh n++lJ c sh n c.ys.length
theorem qC(c:Case)(sh:List Pr)(i:Nat):∀j,(lJ c sh i j).length≤j
 |0=>Nat.le_refl _
 |j+1=>by
  have:=qC c sh i j;simp only[lJ,List.length_append];split<;>simp<;>omega
theorem vH(c:Case)(sh:List Pr):∀n,(j_ c sh n).length≤n*c.ys.length
 |0=>by simp[j_]
 |n+1=>by
  have:=vH c sh n;have:=qC c sh n c.ys.length;simp only[j_,List.length_append,Nat.succ_mul];omega
theorem vI{c:Case}{sh:List Pr}{i:Nat}{x:Pr×Int}:∀{j},x∈lJ c sh i j→n8 c sh x.1=some x.2
 |0,h=>by cases h
 |j+1,h=>by
  rcases List.mem_append.mp h with h|h
  ·exact vI h
  ·split at h
   ·rename_i w e
    have:x=(aR (i,j),w):=by simpa using h
    rw[this];exact e
   ·cases h
theorem vJ{c:Case}{sh:List Pr}{x:Pr×Int}:∀{n},x∈j_ c sh n→n8 c sh x.1=some x.2
 |0,h=>by cases h
 |n+1,h=>by
  rcases List.mem_append.mp h with h|h
  ·exact vJ h
  ·exact vI h
inductive tL(vs:List V)(H:Hp)(Q:VK)(u3:XK):Prop
 |mk (a s:Addr) (c:Case) (f g m l:Addr) (us ws:List V) (sh:List Pr) (_:vs=[.ref a, .ref s]) (_:jt H a c f g m l us) (_:H s=some (.lst ws)) (_:gI H ws sh) (_:c.xs.length≤50) (_:c.ys.length≤50) (_:∀H' r vs,ax H H'→H r=none→H' r=some (.lst vs)→Dn H' vs (j_ c sh c.xs.length)→Q (.ref r) H'):tL vs H Q u3
inductive tM(CF:Addr)(vs:List V)(H:Hp)(Q:VK)(u3:XK):Prop
 |mk (y:Addr) (P:Addr→Prop) (d:Fd) (dy wy rw pr:Addr) (kZ ik:List V) (_:vs=[.ref y]) (_:vG P H CF y d dy wy rw pr kZ ik) (_:d.row.length=d.way.length) (_:d.way≠[]) (_:∀H',ax H H'→Q (.bl true) H'):tM CF vs H Q u3
inductive qD(CF:Addr)(vs:List V)(H:Hp)(Q:VK)(u3:XK):Prop
 |mk (a t:Addr) (c:Case) (f g m l:Addr) (us ws:List V) (es:List Fd) (_:vs=[.ref a, .ref t]) (_:jt H a c f g m l us) (_:dW 50 c) (_:H t=some (.lst ws)) (_:cb (fun _=>True) H CF ws es) (_:bN (ju c []) c.out c.into c.least es) (_:∀H',ax H H'→Q (.bl true) H'):qD CF vs H Q u3
theorem Ft{c:Case}{ps:List Pr}(w:Wy (lf (ju c [])) ps):kX c ps=true:=(yA.mpr w).1
theorem Hk(g:Pr→Option Int)(o p:Int)(ps:List Pr):(Z6 g o p ps).length=ps.length:=by simp[Z6]
theorem bN.pair{c:Case}{es:List Fd}(t:bN (ju c []) c.out c.into c.least es){q:Pr}{w:Int}(h:n8 c [] q=some w)(hl:c.least≤w):∃d∈es,q∈d.pairs:=by
 have hq:lf (ju c []) q=some w:=by rw[wL];exact h
 obtain⟨d,hd,_,p,hp,B4⟩:=t.met (ws:=[q]) (.one (by rw[hq];rfl)) (by simp[vl,hq];exact hl);have:p=q:=by simpa using hp
 exact⟨d,hd,this▸B4⟩
theorem bN.Fu{m:Nat}{c:Case}(ok:dW m c){es:List Fd}(t:bN (ju c []) c.out c.into c.least es){ds:List Fd}(hs:ds.Sublist es):(ds.map Fd.pairs).flatten.length≤m*m:=by
 have h2:=nB (t.apart.sublist hs) fun d hd=>qB (t.kF d (hs.subset hd)).qu
 have h3:=len_sub _ (ux c.xs.length c.ys.length) h2 fun q hq=>by
  obtain⟨ps,hp,hq⟩:=List.mem_flatten.mp hq;obtain⟨d,hd,rfl⟩:=List.mem_map.mp hp;have:=(t.kF d (hs.subset hd)).op q hq;rw[As]at this;obtain⟨w,hw⟩:=Option.isSome_iff_exists.mp this;obtain⟨⟨a1,a2⟩,a3,a4⟩:=c.pw_in hw;have:=oV (n:=c.xs.length) (m:=c.ys.length) (i:=q.1.toNat) (j:=q.2.toNat) (Zz) (Zz);have e:aR (q.1.toNat,q.2.toNat)=q:=Prod.ext (by simp[aR];omega) (by simp[aR];omega);rw[e]at this;exact this
 rw[oU]at h3;exact Nat.le_trans h3 (Nat.mul_le_mul ok.x ok.y)
end QF
namespace L2
open PySem PySem.Spec PyProof.Rows PySem.W PySem.Calls
open AutoSeq1 (wpAny_loadPart')
end L2
namespace QF
open PySem L2 PySem.Spec PyProof.Rows PySem.W PySem.Calls
section
variable{X:Cx}
end
def lK(es:List Fd)(k:Nat):List Pr:=((es.take k).map Fd.pairs).flatten
theorem yQ{es:List Fd}{k:Nat}{d:Fd}(ek:es[k]?=some d):lK es (k+1)=lK es k++d.pairs:=by
 unfold lK;rw[List.take_succ,ek];simp
theorem Hl{es:List Fd}{k:Nat}{q:Pr}(h:q∈lK es k):∃d∈es.take k,q∈d.pairs:=by
 obtain⟨ps,hp,hq⟩:=List.mem_flatten.mp h;obtain⟨d,hd,rfl⟩:=List.mem_map.mp hp;exact⟨d,hd,hq⟩
theorem Lj{es:List Fd}{d:Fd}{q:Pr}(hd:d∈es)(hq:q∈d.pairs):q∈lK es es.length:=by
 unfold lK;rw[List.take_length];exact List.mem_flatten.mpr ⟨_,List.mem_map.mpr ⟨d,hd,rfl⟩,hq⟩
theorem bN.Hm{c:Case}{es:List Fd}(t:bN (ju c []) c.out c.into c.least es){k:Nat}{d:Fd}(ek:es[k]?=some d){q:Pr}(hq:q∈d.pairs):q∉lK es k:=fun h=>by
 obtain⟨e,he,h2⟩:=Hl h;obtain⟨hk,rfl⟩:=Y' ek;obtain⟨i,hi,rfl⟩:=List.mem_iff_getElem.mp he;rw[List.length_take]at hi;rw[List.getElem_take]at h2;exact List.pairwise_iff_getElem.mp t.apart i k (Zz) hk Zw q h2 hq
theorem bN.Lk{m:Nat}{c:Case}(ok:dW m c){es:List Fd}(t:bN (ju c []) c.out c.into c.least es)(k:Nat):(lK es k).length≤m*m:=t.Fu ok (List.take_sublist _ _)
theorem Hn{α:Type}{l:List α}{i:Nat}{g:α}(h:l.Nodup)(e:l[i]?=some g):g∉l.take i:=fun m=>by
 obtain⟨hi,rfl⟩:=Y' e;obtain⟨j,hj,e2⟩:=List.mem_iff_getElem.mp m;rw[List.length_take]at hj;rw[List.getElem_take]at e2;exact List.pairwise_iff_getElem.mp h j i Zw hi Zw e2
theorem Fv{kvs:List (List Key×V)}{ps:List Pr}(h:mT kvs ps)(g:Pr)(v:V):mT (putK kvs (a_ g) v) (ps++[g]):=fun p=>by
 rw[i4];by_cases hp:p=g
 ·rw[Zp (by rw[hp])];simp[hp]
 ·rw[Zm (fun z=>hp (de z)),h p];simp[hp]
theorem xb{α:Type}{R:α→α→Prop}(as:∀a b,R a b→¬R b a):∀{l m:List α},l.Pairwise R→m.Pairwise R→(∀x,x∈l↔x∈m)→l=m
 |[],[],_,_,_=>rfl
 |[],b::m,_,_,h=>by have:=(h b).mpr Zu;cases this
 |a::l,[],_,_,h=>by have:=(h a).mp Zu;cases this
 |a::l,b::m,hl,hm,h=>by
  have IQ:=List.pairwise_cons.mp hl;have zN:=List.pairwise_cons.mp hm;have e:a=b:=by
   rcases List.mem_cons.mp ((h a).mp Zu)with e|e
   ·exact e
   ·rcases List.mem_cons.mp ((h b).mpr Zu)with e2|e2
    ·exact e2.symm
    ·exact absurd (zN.1 a e) (as _ _ (IQ.1 b e2))
  subst e
  congr 1
  refine xb as IQ.2 zN.2 fun x=>⟨fun hx=>?_,fun hx=>?_⟩
  ·rcases List.mem_cons.mp ((h x).mp (by simp[hx]))with e|e
   ·subst e;exact absurd (IQ.1 x hx) (as _ _ (IQ.1 x hx))
   ·exact e
  ·rcases List.mem_cons.mp ((h x).mpr (by simp[hx]))with e|e
   ·subst e;exact absurd (zN.1 x hx) (as _ _ (zN.1 x hx))
   ·exact e
theorem Fw(p q:Pr)(h:jw p q=true):¬jw q p=true:=fun z=>by rw[Ae h]at z;cases z
abbrev Ky:=Int×List Pr
def i9(d:Fd):Ky:=(d.worth,d.pairs)
def Ll(a b:Ky):Bool:=if a.1=b.1 then jw (la a.2) (la b.2)else decide (b.1<a.1)
theorem Ho(a b:Ky)(h:Ll a b=true):¬Ll b a=true:=fun z=>by
 unfold Ll at h z;by_cases e:a.1=b.1
 ·rw[Zp e]at h;rw[Zp e.symm]at z;exact Fw _ _ h z
 ·rw[Zm e]at h;rw[Zm (Ne.symm e)]at z;simp at h z;omega
theorem Told.same{E:Pr→Pr→Prop}{gs hs:List (List Pr)}(t:Told E gs)(u:Told E hs):∀ps∈gs,ps∈hs:=fun ps h=>by
 obtain⟨a,ha⟩:=List.exists_mem_of_ne_nil ps (t.ne ps h);obtain⟨qs,hq,hb⟩:=u.all a (t.mem h ha);have:ps=qs:=xb Fw (t.qu ps h) (u.qu qs hq) fun x=>(t.cls ps h a ha x).trans (u.cls qs hq a hb x).symm
 rw[this];exact hq
inductive Rn(o p least:Int):(Nat→Nat→Option Int)→List Fd→Prop
 |stop {f:Nat→Nat→Option Int} (_:Stop f o p least):Rn o p least f []
 |round {f:Nat→Nat→Option Int} {W:Int} {gs:List (List Pr)} {ds rs:List Fd} (_:gX f o p least W gs ds) (_:Rn o p least (fE f gs.flatten) rs):Rn o p least f (ds++rs)
theorem Reach.rn{f0 f:Nat→Nat→Option Int}{o p least:Int}{ds rs:List Fd}(r:Reach f0 o p least ds f)(h:Rn o p least f rs):Rn o p least f0 (ds++rs):=by
 induction r generalizing rs with
 |start=>exact h
 |round _ R ih=>rw[List.append_assoc];exact ih (.round R h)
theorem bN.rn{f0:Nat→Nat→Option Int}{o p least:Int}{es:List Fd}(t:bN f0 o p least es):∃ds,Rn o p least f0 ds∧es.Perm ds:=by
 obtain⟨ds,f,r,st,pm⟩:=t.PD;have:=r.rn (.stop st);rw[List.append_nil]at this;exact⟨ds,this,pm⟩
theorem gX.yR{f:Nat→Nat→Option Int}{o p least W:Int}{gs:List (List Pr)}{ds:List Fd}(R:gX f o p least W gs ds)(s:Stop f o p least):False:=by
 obtain⟨ps,w,e⟩:=R.ex;have:=s ps w;have:=R.least;omega
theorem gX.keys{f:Nat→Nat→Option Int}{o p least W:Int}{gs:List (List Pr)}{ds:List Fd}(R:gX f o p least W gs ds)(k:Ky):k∈ds.map i9↔k.1=W∧k.2∈gs:=by
 constructor
 ·intro h;obtain⟨d,hd,rfl⟩:=List.mem_map.mp h;refine⟨(R.ok d hd).worth,?_⟩;rw[←R.CH];exact List.mem_map.mpr ⟨d,hd,rfl⟩
 ·rintro⟨h1,h2⟩;rw[←R.CH]at h2;obtain⟨d,hd,e⟩:=List.mem_map.mp h2;exact List.mem_map.mpr ⟨d,hd,Prod.ext ((R.ok d hd).worth.trans h1.symm) e⟩
theorem CO{f:Nat→Nat→Option Int}{ps qs:List Pr}(h:∀x,x∈ps↔x∈qs):fE f ps=fE f qs:=by
 funext i j
 unfold fE;by_cases e:aR (i,j)∈ps
 ·rw[Zp e,Zp ((h _).mp e)]
 ·rw[Zm e,Zm (fun z=>e ((h _).mpr z))]
theorem Rn.uniq{o p least:Int}{f:Nat→Nat→Option Int}{ds es:List Fd}(a:Rn o p least f ds)(b:Rn o p least f es):∀k,k∈ds.map i9↔k∈es.map i9:=by
 induction a generalizing es with
 |stop s=>
  cases b with
  |stop _=>exact fun k=>Iff.rfl
  |round R _=>exact(R.yR s).elim
 |@round f W gs ds rs R _ ih=>
  cases b with
  |stop s=>exact(R.yR s).elim
  |@round _ W' Uw WR YB R' b'=>
   have eW:W=W':=by
    obtain⟨ps,w,e⟩:=R.ex;obtain⟨qs,v,e'⟩:=R'.ex;have:=R.top qs v;have:=R'.top ps w;omega
   subst eW;have hg:∀ps,ps∈gs↔ps∈Uw:=fun ps=>⟨R.told.same R'.told ps,R'.told.same R.told ps⟩
   have es:fE f gs.flatten=fE f Uw.flatten:=CO fun x=>by
    simp only[List.mem_flatten];exact⟨fun⟨l,h1,h2⟩=>⟨l,(hg l).mp h1,h2⟩,fun⟨l,h1,h2⟩=>⟨l,(hg l).mpr h1,h2⟩⟩
   rw[←es]at b';intro k;rw[List.map_append,List.map_append,List.mem_append,List.mem_append,R.keys,R'.keys,hg,ih b' k]
theorem bN.keys{f0:Nat→Nat→Option Int}{o p least:Int}{es:List Fd}(t:bN f0 o p least es){ds:List Fd}(r:Rn o p least f0 ds)(k:Ky):k∈es.map i9↔k∈ds.map i9:=by
 obtain⟨WR,r',pm⟩:=t.rn;rw[(pm.map i9).mem_iff];exact r'.uniq r k
theorem bN.eq{f0 f1:Nat→Nat→Option Int}{o p least o' p' least':Int}{es xZ:List Fd}(t:bN f0 o p least es)(hs:xZ.Pairwise fun a b=>Lh a b=true)(h:∀k,k∈es.map i9↔k∈xZ.map i9):es.map i9=xZ.map i9:=
 xb Ho (List.pairwise_map.mpr t.qu) (List.pairwise_map.mpr hs) h
theorem Hq{f:Nat→Nat→Option Int}{ps ws:List Pr}(w:Wy (lf (fE f ps)) ws):Wy (lf f) ws∧∀q∈ws,lf (fE f ps) q=lf f q:=by
 have:∀q∈ws,lf (fE f ps) q=lf f q:=fun q hq=>by
  have:=w.ok q hq;rw[oT]at this⊢;split at this
  ·cases this
  ·rename_i h;rw[Zm h]
 exact⟨w.congr this,this⟩
theorem yS{f:Nat→Nat→Option Int}{o p W:Int}(T:dQ f o p W)(ps:List Pr):dQ (fE f ps) o p W:=fun ws w=>by
 obtain⟨w1,w2⟩:=Hq w;rw[iq o p w2];exact T ws w1
theorem Rn.le{o p least W:Int}{f:Nat→Nat→Option Int}{ds:List Fd}(r:Rn o p least f ds)(T:dQ f o p W):∀d∈ds,d.worth≤W:=by
 induction r with
 |stop _=>exact fun d h=>by cases h
 |round R _ ih=>
  intro d hd;rcases List.mem_append.mp hd with hd|hd
  ·rw[(R.ok d hd).worth];obtain⟨ps,w,e⟩:=R.ex;rw[←e];exact T ps w
  ·exact ih (yS T _) d hd
theorem Rn.more{o p least l2:Int}{f:Nat→Nat→Option Int}{ds:List Fd}(h:least≤l2)(r:Rn o p least f ds):Rn o p l2 f (ds.filter fun d=>decide (l2≤d.worth)):=by
 induction r with
 |stop s=>exact .stop fun ps w=>by have:=s ps w;omega
 |@round f W gs ds rs R r' ih=>
  rw[List.filter_append];by_cases e:l2≤W
  ·have:ds.filter (fun d=>decide (l2≤d.worth))=ds:=List.filter_eq_self.mpr fun d hd=>by rw[(R.ok d hd).worth];exact decide_eq_true e
   rw[this];exact .round ⟨R.top,R.ex,e,R.told,R.CH,R.ok⟩ ih
  ·have e1:ds.filter (fun d=>decide (l2≤d.worth))=[]:=List.filter_eq_nil_iff.mpr fun d hd=>by rw[(R.ok d hd).worth];simpa using e
   have e2:rs.filter (fun d=>decide (l2≤d.worth))=[]:=List.filter_eq_nil_iff.mpr fun d hd=>by
    have:=r'.le (yS R.top _) d hd;simp;omega
   rw[e1,e2];exact .stop fun ps w=>by have:=R.top ps w;omega
theorem bN.more{f0:Nat→Nat→Option Int}{o p least l2:Int}{es xZ:List Fd}(h:least≤l2)(t:bN f0 o p least es)(t':bN f0 o p l2 xZ):xZ.map i9=(es.filter fun d=>decide (l2≤d.worth)).map i9:=by
 obtain⟨ds,r,pm⟩:=t.rn;refine bN.eq (f1:=f0) (o':=o) (p':=p) (least':=l2) t' (t.qu.filter _) fun k=>(t'.keys (r.more h) k).trans ?_
 exact((pm.filter _).map i9).mem_iff.symm
def Lm(H:Hp)(ws:List V)(ks:List Ky):Prop:=ws.length=ks.length∧∀(i:Nat)(x:Ky),ks[i]?=some x→∃t l us,ws[i]?=some (V.ref t)∧H t=some (.tup [.int x.1, .ref l])∧H l=some (.lst us)∧gI H us x.2
inductive tN(CF:Addr)(vs:List V)(H:Hp)(Q:VK)(u3:XK):Prop
 |mk (t d:Addr) (us ws:List V) (es:List Fd) (P:Addr→Prop) (_:vs=[.ref t, .ref d]) (_:H t=some (.lst us)) (_:cb P H CF us es) (_:H d=some (.lst ws)) (_:Lm H ws (es.map i9)) (_:es.length≤1000) (_:Q (.bl true) H):tN CF vs H Q u3
section
variable{X:Cx}
inductive E4(K:Frag)(x:V)(y:V)(H:Hp)(Q:VK):Prop
 |mk (p q:Addr) (xs ys:List V) (ps:List Pr) (_:x= .ref p) (_:y= .ref q) (_:iC K H p xs) (_:iC K H q ys) (_:gI H xs ps) (_:gI H ys ps) (_:Q (.bl false) H):E4 K x y H Q
theorem Av(K:Frag)(hu:X.A.units+1<cLine)(hK:X.K=K:=by rfl):rH X (compareOp .NotEq) (E4 K):=by
 subst hK;intro pins s σ H x y v u Q I rx ry h;obtain⟨p,q,xs,ys,ps,rfl,rfl,hp,hq,P1,P2,k⟩:=h;cases rx;cases ry;obtain⟨its,r,pl,hz⟩:=I.list hp;obtain⟨eE,r2,GD,LR⟩:=I.list hq;have l1:=r.length;have l2:=r2.length;have c1:=P1.1;have c2:=P2.1;obtain⟨⟨cls,dd,data,sl⟩,ho,hc,n,hd⟩:=id pl.isList;obtain⟨⟨Kb,Eh,data2,xQ⟩,xR,ug,n2,hd2⟩:=id GD.isList;simp only at hc hd ug hd2;subst hc hd ug hd2;have hsz:its.toArray.size=eE.toArray.size:=by rw[List.size_toArray,List.size_toArray];omega
 refine richCompare_meets_room (op:= .NotEq) ⟨_,ho,rfl⟩ ⟨_,xR,rfl⟩ F.slot_list_ne F.entry_list_ne (F.args_list_ne_2 _ _) (SeqAt.list_neAt p q its.toArray eE.toArray n n2 dd Eh sl xQ hsz fun _=>true) ⟨ho,xR,fun j h1 h2=>?_,?_⟩ Zw
 ·have Io:j<ps.length:=by simp at h1;omega
  have ej:ps[j]?=some ps[j]:=by simp[Io]
  generalize ps[j]=g at ej;obtain⟨a1,e1,g1⟩:=P1.2 j g ej;obtain⟨a2,e2,g2⟩:=P2.2 j g ej;obtain⟨u1,WS,WT⟩:=r.get e1;obtain⟨u2,WU,WV⟩:=r2.get e2;cases WT;cases WV;have k1:its.toArray[j]= .ref a1:=by simpa[List.getElem?_eq_some_iff]using(Y' WS).2
  have k2:eE.toArray[j]= .ref a2:=by simpa[List.getElem?_eq_some_iff]using(Y' WU).2
  rw[k1,k2];by_cases ha:a1=a2
  ·subst ha;exact SeqAt.EqAt.same _
  ·obtain⟨Oc,r3,RZ,WO⟩:=I.tuple (xs:=jr g) (.of g1);obtain⟨R1,r4,WW,YC⟩:=I.tuple (xs:=jr g) (.of g2);have:=SeqAt.EqAt.of_refs ha (SeqAt.RcAt.tuples (A:=X.A.in1) RZ WW (show X.A.in1.units<cLine from hu) (sW r3 r4 rfl rfl));have e9:true=decide (g=g):=ZD;have h3:Oc.toArray.size=(jr g).length:=by rw[List.size_toArray,←r3.length]
   have h4:R1.toArray.size=(jr g).length:=by rw[List.size_toArray,←r4.length]
   rw[h3,h4]at this;rw[e9,←wJ,←kz];exact this
 ·refine⟨(fun x=>nomatch x), .bl false,H,I,?_,k⟩;have e9:((List.range its.toArray.size).all fun _=>true)=true:=ZD;rw[e9];rfl
end
end QF
namespace QF
open PySem L2
def PH(c:Case):Prop:=∀ds f,Reach (ju c []) c.out c.into c.least ds f→ds.length≤20
inductive xc(CF:Addr)(vs:List V)(H:Hp)(Q:VK)(u3:XK):Prop
 |mk (a:Addr) (c:Case) (f g m l:Addr) (us:List V) (most:Nat) (_:vs=[.ref a]) (_:jt H a c f g m l us) (_:dW most c) (_:most≤50) (_:PH c) (_:∀es,bN (ju c []) c.out c.into c.least es→∀H' r vs,ax H H'→H r=none→H' r=some (.lst vs)→cb (fun _=>True) H' CF vs es→Q (.ref r) H'):xc CF vs H Q u3
theorem Fx{m:Nat}{c:Case}(k:dW m (gf c)):PH (gf c):=fun _ _ r=>Fq k r
theorem Reach.less{f0 f:Nat→Nat→Option Int}{o p least l2:Int}{ds:List Fd}(h:least≤l2)(r:Reach f0 o p l2 ds f):Reach f0 o p least ds f:=by
 induction r with
 |start=>exact .start
 |round _ R ih=>exact .round ih ⟨R.top,R.ex,Int.le_trans h R.least,R.told,R.CH,R.ok⟩
def lL(H:Hp)(S:Addr)(ws:List V)(ks:List Ky):Prop:=ws.length=ks.length∧∀(i:Nat)(x:Ky),ks[i]?=some x→∃t l us,ws[i]?=some (V.ref t)∧H t=some (.tup [.int x.1, .ref l])∧H l=some (.lst us)∧gI H us x.2∧l≠S
theorem lL.R3{H:Hp}{S:Addr}{ws:List V}{ks:List Ky}(D:lL H S ws ks):Lm H ws ks:=⟨D.1,fun i x e=>let ⟨t,l,us,h1,h2,h3,P,_⟩:=D.2 i x e;⟨t,l,us,h1,h2,h3,P⟩⟩
theorem lL.nil{H:Hp}{S:Addr}:lL H S [] []:=⟨rfl,fun i x e=>by simp at e⟩
theorem lL.keep{H H':Hp}{S:Addr}{ws:List V}{ks:List Ky}(D:lL H S ws ks)(h:∀b o,b≠S→H b=some o→H' b=some o)(T:dG H H'):lL H' S ws ks:=
 ⟨D.1,fun i x e=>let ⟨t,l,us,h1,h2,h3,P,n⟩:=D.2 i x e;⟨t,l,us,h1,T _ _ h2,h l _ n h3,P.cD T,n⟩⟩
theorem lL.snoc{H:Hp}{S:Addr}{ws:List V}{ks:List Ky}(D:lL H S ws ks){t l:Addr}{us:List V}{x:Ky}(h1:H t=some (.tup [.int x.1, .ref l]))(h2:H l=some (.lst us))(P:gI H us x.2)(n:l≠S):lL H S (ws++[.ref t]) (ks++[x]):=by
 refine⟨by simp[D.1],fun k y e=>?_⟩;by_cases hk:k<ks.length
 ·rw[List.getElem?_append_left hk]at e;rw[List.getElem?_append_left (by rw[D.1];exact hk)];exact D.2 k y e
 ·rw[List.getElem?_append_right Zw]at e;have wO:k-ks.length=0:=by
   have:=(Y' e).1;simp at this;omega
  rw[wO]at e;cases e;refine⟨t,l,us,?_,h1,h2,P,n⟩;rw[List.getElem?_append_right (by rw[D.1];omega),D.1,wO];rfl
end QF
namespace L2
open PySem PySem.Spec PyProof.Rows PySem.W PySem.Calls
open AutoSeq1 (wpAny_loadPart')
end L2
namespace QF
open PySem L2 PySem.Spec PyProof.Rows PySem.W PySem.Calls
section
variable{X:Cx}
end
end QF
namespace QF
open PySem L2
end QF
namespace QF
open PySem L2
section
variable{m:Nat}{c:Case}
end
section
variable{φ ψ:Pr→Pr}{o p o' p' W least:Int}{f g:Nat→Nat→Option Int}
end
end QF
namespace R4
open PySem L2 QF
def top(i:Nat):Stmt:=PySem.Challenge.pw_quotefind_k25_greater_least.main.body.getD i (.Pass ⟨0,0,0,0⟩)
abbrev gh:Stmt:=top 28
abbrev my:Stmt:=top 29
abbrev kG:Stmt:=top 34
abbrev i_:Stmt:=top 35
abbrev gi:Stmt:=top 36
abbrev gY:Stmt:=top 37
abbrev br:Stmt:=inClass (top 38) 0
abbrev dX:Stmt:=inClass (top 38) 1
abbrev kH:Stmt:=top 11
abbrev Aw:Stmt:=top 12
abbrev fQ:Stmt:=top 13
abbrev dI:Stmt:=inClass (top 14) 1
abbrev eK:Stmt:=inClass (top 14) 0
abbrev gR:Stmt:=inClass (top 14) 2
abbrev dY:Stmt:=inClass (top 14) 4
abbrev cQ:Stmt:=inClass (top 14) 3
abbrev e6:Stmt:=inClass (top 14) 5
abbrev iA:Stmt:=inClass (top 14) 6
abbrev fR:Stmt:=inClass (top 20) 0
abbrev nE:Stmt:=top 24
abbrev e7:Stmt:=top 21
abbrev gj:Stmt:=inClass (top 7) 0
abbrev iI:Stmt:=inClass (top 7) 1
abbrev fu:Stmt:=inClass (top 7) 2
abbrev e8:Stmt:=inClass (top 7) 3
abbrev gZ:Stmt:=inClass (top 7) 4
abbrev e_:Stmt:=inClass (top 8) 0
abbrev fv:Stmt:=inClass (top 8) 1
abbrev dE:Stmt:=inClass (top 8) 2
abbrev eL:Stmt:=inClass (top 8) 3
abbrev jU:Stmt:=top 9
abbrev mz:Stmt:=top 16
abbrev fF:Stmt:=top 17
abbrev gk:Stmt:=top 22
abbrev kI:Stmt:=top 23
abbrev qE:Stmt:=top 25
abbrev qF:Stmt:=top 40
abbrev kJ:Stmt:=top 41
abbrev lM:Stmt:=top 42
abbrev lN:Stmt:=top 43
abbrev iJ:Stmt:=top 44
abbrev gm:Stmt:=top 45
abbrev lO:Stmt:=top 46
abbrev lP:Stmt:=top 47
abbrev lQ:Stmt:=top 48
abbrev kK:Stmt:=top 49
abbrev kL:Stmt:=top 50
abbrev kM:Stmt:=top 51
abbrev lR:Stmt:=top 52
abbrev gq:Stmt:=top 53
abbrev g7:Stmt:=top 54
abbrev iK:Stmt:=top 55
abbrev g8:Stmt:=top 56
abbrev kN:Stmt:=top 57
abbrev fz:Stmt:=top 58
abbrev oX:Stmt:=top 59
section
variable{P:Program}{w:World}{K:W.Frag}{mg:Str→Option Value}{base:Heap}
variable{dZ cS aU aA ay aI az ka:Addr}
variable(T:TB mg)
theorem nF:aK ["sign"] ["sign"] (au gh):=⟨rfl,rfl,rfl,by decide+kernel,rfl,by decide+kernel,by decide+kernel⟩
include T in
theorem nG{f:Addr}{fd:FuncData}(F:jn K "is_small_letter" "is_small_letter" gh f fd):aZ P w K mg base (cV P w) true 1 f fd ["sign"] zQ:=by
 refine F.gK nF Zv (fun bR A outer s H vs Q E hr h hX=>?_)
 ·obtain⟨i,rfl,_⟩:=h;rfl
 ·obtain⟨c,rfl,q⟩:=h;refine⟨_,(Zh (Zs (@vS _ _ _ _ _ _ _ (@iE _ _ _ _ _ _ _ _ vw dR (pv 0) (aV _)) (@vR _ _ _ _ _ (@iE _ _ _ _ _ _ _ _ vw (pv 0) dR (aV _)))))),?_⟩;refine⟨_,rfl,_,_,rfl,rfl,_,rfl,?_⟩;have q:Q (.bl (decide (97≤c)&&decide (c≤122))) H:=q;rw[←Rj,←Rk]at q;refine a9 (fun h=>?_) (fun h=>?_)
  ·refine⟨_,rfl,_,_,rfl,rfl,?_⟩;rw[h,Bool.true_and]at q;exact q
  ·rw[Bool.not_eq_true]at h;rw[h,Bool.false_and]at q;exact q
variable(jy:DE mg "WORD_MOST" (.int 12))
variable(eM:bK P w K mg base true 1 "is_small_letter" ["sign"] zQ)
theorem Ax:aK ["text"] ["text"] (au my):=⟨rfl,rfl,rfl,by decide+kernel,rfl,by decide+kernel,by decide+kernel⟩
include T jy eM in
theorem Ay{f:Addr}{fd:FuncData}(F:jn K "is_word" "is_word" my f fd):aZ P w K mg base (cV P w) true 2 f fd ["text"] wj:=by
 refine F.gK Ax Zv (fun bR A outer s H vs Q E hr h hX=>?_)
 ·obtain⟨i,rfl,_⟩:=h;rfl
 ·obtain⟨z,rfl,hz,q⟩:=h;refine⟨_,(Ze (Zj (@PW.pt _ _ _ (@pw_or _ _ _ _ _ _ _ (Zo mP (Y9 ow T.cP (Y4 (pv 0))) af (aV _)) (@pw_or1 _ _ _ _ (Zo oh (Y9 ow T.cP (Y4 (pv 0))) (@fI _ _ _ _ jy (ZC) (ZA)) (aV _))))) (Zh (Zs dO)) aP) (Zh (Zs (Zi (Ce K rfl) T.Nt PyProof.Rows.Boot.«all» (Y4 (@oF _ _ _ _ _ _ _ _ _ _ _ _ _ _ (by exact rfl) (show bB ["text"] (au my) _ ["sign"] [] []from⟨rfl,by decide+kernel,by decide+kernel,by decide+kernel,rfl,rfl,by decide+kernel,by decide+kernel,by decide+kernel⟩) (@J6 _ _ _ _ (pv 0)) (fun _ _ _ _ _=>(Y6 (0) (show(["sign"]:List Str).Nodup by decide+kernel))) (fun _ _ _ _ _=>jo) (fun _ _ _ _ _=>(Y5 eM aQ (Y4 (pv 0)))) (by intro _;rfl))))))),?_⟩;have Ux:z.length≤sizeLine:=Nat.le_trans hz (ZA);refine⟨_,rfl,z,rfl,Ux,_,_,rfl,rfl,_,rfl,?_⟩;refine a9 (fun h=>?_) (fun h=>?_)
  ·have h:((z.length:Nat):Int)<1:=by simpa using h
   refine jP ?_;have e:sP z=false:=by
    have:¬1≤z.length:=Zz;simp[sP,this]
   have q:=q H (ax.refl H);rw[e]at q;exact q
  have h:¬((z.length:Nat):Int)<1:=by simpa using h
  refine⟨_,rfl,z,rfl,Ux,_,_,rfl,rfl,_,rfl,?_⟩;refine a9 (fun h2=>?_) (fun h2=>?_)
  ·have h2:(12:Int)<((z.length:Nat):Int):=by simpa using h2
   have e:sP z=false:=by
    have:¬z.length≤12:=Zz;simp[sP,this]
   have q:=q H (ax.refl H);rw[e]at q;exact q
  have h2:¬(12:Int)<((z.length:Nat):Int):=by simpa using h2
  have hl:z.length≤12:=Zz;have e:sP z=z.cps.toList.all low:=by
   have h3:1≤z.length:=Zz;simp[sP,h3,hl]
  refine⟨_,rfl,z,rfl,fun D hD=>?_⟩;refine D6 (fun i ys σ H'=>(∃v,σ=[v])∧ys=(z.cps.toList.take i).map (fun c=>V.bl (low c))∧H'=upd H D (.lst ys)) ⟨⟨_,rfl⟩,rfl,rfl⟩ ?_ ?_
  ·rintro i c ys σ H' hc ⟨⟨v,rfl⟩,hy,rfl⟩;refine sN ?_;refine⟨_,rfl,c,rfl,ae,?_,⟨_,rfl⟩,?_,?_⟩
   ·rw[hy,List.length_map,List.length_take];exact Nat.lt_of_le_of_lt (Nat.min_le_left _ _) (Nat.lt_of_lt_of_le (Nat.lt_of_lt_of_le (Y' hc).1 (by simpa[Str.length]using hl)) (ZA))
   ·rw[hy,List.take_succ,hc];simp
   ·rw[f6]
  ·rintro ys σ H' ⟨_,hy,rfl⟩;have Dp:ys=(z.cps.toList.map low).map V.bl:=by
    rw[hy,List.take_of_length_le (by simp[Str.length])];simp
   rw[Dp];refine⟨D,z.cps.toList.map low,rfl,iC.of ae,?_⟩;have q:=q _ (ax.upd hD:ax H (upd H D (.lst ((z.cps.toList.map low).map V.bl))));rw[e]at q;have e3:(z.cps.toList.map low).all id=z.cps.toList.all low:=by rw[List.all_map];rfl
   rw[←e3]at q;exact q
theorem uy:aK ["low","number","high"] ["low","number","high"] (au kG):=⟨rfl,rfl,rfl,by decide+kernel,rfl,by decide+kernel,by decide+kernel⟩
include T in
theorem uz{f:Addr}{fd:FuncData}(F:jn K "is_between" "is_between" kG f fd):aZ P w K mg base (cV P w) true 1 f fd ["low","number","high"] nh:=by
 refine F.gK uy Zv (fun bR A outer s H vs Q E hr h hX=>?_)
 ·obtain⟨l,n,h,rfl,_⟩:=h;rfl
 ·obtain⟨l,n,h,rfl,q⟩:=h;refine⟨_,(Zh (Zs (@vS _ _ _ _ _ _ _ (@iE _ _ _ _ _ _ _ _ AX (pv 0) (pv 1) (aV _)) (@vR _ _ _ _ _ (@iE _ _ _ _ _ _ _ _ AX (pv 1) (pv 2) (aV _)))))),?_⟩;refine⟨_,rfl,_,rfl,_,_,rfl,rfl,_,rfl,?_⟩;refine a9 (fun h1=>?_) (fun h1=>?_)
  ·refine⟨_,rfl,_,rfl,_,_,rfl,rfl,?_⟩;rw[h1,Bool.true_and]at q;exact q
  ·rw[Bool.not_eq_true]at h1;rw[h1,Bool.false_and]at q;exact q
variable(d6:bK P w K mg base true 1 "is_between" ["low","number","high"] nh)
variable(ja:Er K mg "BadTerms" dZ)
theorem rN:aK ["name","number","low","high"] ["name","number","low","high"] (au i_):=⟨rfl,rfl,rfl,by decide+kernel,rfl,by decide+kernel,by decide+kernel⟩
include T d6 ja in
theorem rO{f:Addr}{fd:FuncData}(F:jn K "check_number" "check_number" i_ f fd):aZ P w K mg base (cV P w) true 2 f fd ["name","number","low","high"] (qh dZ):=by
 refine F.gK rN Zv (fun bR A outer s H vs Q E hr h hX=>?_)
 ·obtain⟨nm,n,l,h,rfl,_⟩:=h;rfl
 ·obtain⟨nm,n,l,h,rfl,hn,hl,hh,q⟩:=h;refine⟨_,(Zh (Zj (@cJ _ _ _ _ (@bY _ _ _ (Y5 d6 aQ (Y8 (pv 2) (Y8 (pv 1) (Y4 (pv 3))))) (by intro _;rfl))) (Zh (@i5 _ _ _ _ _ _ _ _ _ _ hX Zy (by exact rfl) ja.m ja.e (Y4 (@ma _ _ _ _ _ _ (@fq _ _ _ _ _ (@qg _ _ _ _ (pv 0)) (@fq _ _ _ _ _ dR (@fq _ _ _ _ _ (@qg _ _ _ _ (pv 2)) (@fq _ _ _ _ _ dR (@fq _ _ _ _ _ (@qg _ _ _ _ (pv 3)) v_))))))) (ZA) (ZC) (ZC))) aP)),?_⟩;refine⟨_,rfl,_,rfl,_,rfl,l,n,h,rfl,?_⟩;refine⟨_,rfl,?_⟩;refine a9 (fun h1=>?_) (fun h1=>?_)
  ·have h1:inR l n h=false:=(Bool.not_eq_true' _).mp h1;rw[h1]at q;have z1:=oH (i:=l) (by lia);have z2:=oH (i:=h) (by lia);have w1:(Str.ofString " lies between ").length=14:=by decide+kernel
   have w2:(Str.ofString " and ").length=5:=by decide+kernel
   have w3:=mf;refine⟨_,rfl, .inl ⟨nm,rfl,aE Zx,nm,rfl,aE ?_,_,rfl,aE ?_,_,rfl, .inr ⟨l,rfl,z1.1,_,rfl,aE ?_,_,rfl,aE ?_,_,rfl, .inr ⟨h,rfl,z2.1,_,rfl,aE ?_,aE ?_,ie,?_⟩⟩⟩⟩
   ·rw[len_app];lia
   ·rw[len_app,len_app];lia
   ·rw[len_app,len_app,len_app];lia
   ·rw[len_app,len_app,len_app,len_app];lia
   ·rw[len_app,len_app,len_app,len_app,len_app];lia
   ·rw[len_app,len_app,len_app,len_app,len_app];lia
   ·exact q
  ·have h1:inR l n h=true:=by
    have h1:¬(!(inR l n h))=true:=h1;simpa using h1
   rw[h1]at q;exact q
variable(bO:DE mg "WORTH_MOST" (.int 999999))
variable(kb:bK P w K mg base true 2 "is_word" ["text"] wj)
variable(cc:Er K mg "BadNear" cS)
theorem nH:aK ["x","y","price"] ["x","y","price"] (au gi):=⟨rfl,rfl,rfl,by decide+kernel,rfl,by decide+kernel,by decide+kernel⟩
include T d6 bO kb cc in
theorem nJ{f:Addr}{fd:FuncData}(F:jn K "check_near_form" "check_near_form" gi f fd):aZ P w K mg base (cV P w) true 3 f fd ["x","y","price"] (wk cS):=by
 refine F.gK nH Zv (fun bR A outer s H vs Q E hr h hX=>?_)
 ·obtain⟨x,y,p,rfl,_⟩:=h;rfl
 ·obtain⟨x,y,p,rfl,hx,hy,q⟩:=h;have bad:iz x y p=false→∀H',ax H H'→E (.ref cS) none H':=fun e=>by rw[e]at q;exact q
  have good:iz x y p=true→∀H',ax H H'→Q .cN H':=fun e=>by rw[e]at q;exact q
  refine⟨_,(Ze (Zj (@PW.pt _ _ _ (@pw_or _ _ _ _ _ _ _ (@cJ _ _ _ _ (@bY _ _ _ (Y5 kb aQ (Y4 (pv 0))) (by intro _;rfl))) (@pw_or1 _ _ _ _ (@cJ _ _ _ _ (@bY _ _ _ (Y5 kb aQ (Y4 (pv 1))) (by intro _;rfl)))))) (Zh (@i5 _ _ _ _ _ _ _ _ _ _ hX Zy (by exact rfl) cc.m cc.e (Y4 dR) (ZA) (ZC) (ZC))) aP) (Ze (Zj (Zo jm (pv 0) (pv 1) (aV _)) (Zh (@i5 _ _ _ _ _ _ _ _ _ _ hX Zy (by exact rfl) cc.m cc.e (Y4 dR) (ZA) (ZC) (ZC))) aP) (Zh (Zj (@cJ _ _ _ _ (@bY _ _ _ (Y5 d6 aQ (Y8 af (Y8 (pv 2) (Y4 (@fI _ _ _ _ bO (ZC) (ZA)))))) (by intro _;rfl))) (Zh (@i5 _ _ _ _ _ _ _ _ _ _ hX Zy (by exact rfl) cc.m cc.e (Y4 (@ma _ _ _ _ _ _ (@fq _ _ _ _ _ dR (@fq _ _ _ _ _ (@qg _ _ _ _ (@fI _ _ _ _ bO (ZC) (ZA))) v_)))) (ZA) (ZC) (ZC))) aP)))),?_⟩;refine⟨_,rfl,x,rfl,hx,fun H1 s1=>⟨_,rfl,?_⟩⟩;refine a9 (fun h1=>?_) (fun h1=>?_)
  ·have h1:(!(sP x))=true:=h1;exact⟨ie,bad (by simp[iz,(Bool.not_eq_true' _).mp h1]) H1 s1⟩
  have h1:¬(!(sP x))=true:=h1;have h1:sP x=true:=by simpa using h1
  refine⟨_,rfl,y,rfl,hy,fun H2 s2=>⟨_,rfl,?_⟩⟩;have s2:=s1.trans s2;refine a9 (fun h2=>?_) (fun h2=>?_)
  ·have h2:(!(sP y))=true:=h2;exact⟨ie,bad (by simp[iz,(Bool.not_eq_true' _).mp h2]) H2 s2⟩
  have h2:¬(!(sP y))=true:=h2;have h2:sP y=true:=by simpa using h2
  refine⟨_,rfl,_,rfl,rfl,_,rfl,?_⟩;refine a9 (fun h3=>?_) (fun h3=>?_)
  ·have h3:x=y:=by simpa using h3
   exact⟨ie,bad (by simp[iz,h3]) H2 s2⟩
  have h3:¬x=y:=by simpa using h3
  refine⟨_,rfl,0,p,999999,rfl,_,rfl,?_⟩;refine a9 (fun h4=>?_) (fun h4=>?_)
  ·have h4:(!(inR 0 p 999999))=true:=h4;have z1:=oH (i:=999999) (Zz);have w1:(Str.ofString "the price of a near form lies between 0 and ").length=44:=by decide+kernel
   have w3:=mf;refine⟨_,rfl,aE ?_, .inr ⟨999999,rfl,z1.1,_,rfl,aE ?_,aE ?_,ie,?_⟩⟩
   ·rw[len_app];omega
   ·rw[len_app,len_app];omega
   ·rw[len_app,len_app];omega
   ·exact bad (by simp[iz,(Bool.not_eq_true' _).mp h4]) H2 s2
  ·have h4:¬(!(inR 0 p 999999))=true:=h4;have h4:inR 0 p 999999=true:=by simpa using h4
   exact good (by simp[iz,h1,h2,h3,h4]) H2 s2
variable(ir:DE mg "NEAR_MOST" (.int 60))
variable(eO:bK P w K mg base true 3 "check_near_form" ["x","y","price"] (wk cS))
theorem fe:aK ["near","prices","x","y","price"] ["near"] (au gY):=⟨rfl,rfl,rfl,by decide+kernel,rfl,by decide+kernel,by decide+kernel⟩
include T cc ir eO in
theorem tO{f:Addr}{fd:FuncData}(F:jn K "near_prices" "near_prices" gY f fd):aZ P w K mg base (cV P w) true 4 f fd ["near"] (qi cS):=by
 refine F.gK fe Zv (fun bR A outer s H vs Q E hr h hX=>?_)
 ·obtain⟨a,xs,fs,rfl,_⟩:=h;rfl
 ·obtain⟨a,xs,fs,rfl,ha,ht,Na,q⟩:=h;have bad:bM fs=false→∀H',ax H H'→E (.ref cS) none H':=fun e=>by rw[e]at q;exact q
  have good:bM fs=true→∀H' d,ax H H'→H d=none→H' d=some (.dT (fs.map lD))→Q (.ref d) H':=fun e=>by rw[e]at q;exact q
  have hu:=hr.units;have hu:(A.deeper (PyProof.Rows.envOfC "near_prices" (au gY) s.heap.objs.size f bR)).units+1<cLine:=Zz;refine⟨_,(Ze (Zj (Zo oh (Y9 (aJ K) T.cP (Y4 (pv 0))) (@fI _ _ _ _ ir (ZC) (ZA)) (aV _)) (Zh (@i5 _ _ _ _ _ _ _ _ _ _ hX Zy (by exact rfl) cc.m cc.e (Y4 (@ma _ _ _ _ _ _ (@fq _ _ _ _ _ dR (@fq _ _ _ _ _ (@qg _ _ _ _ (@fI _ _ _ _ ir (ZC) (ZA))) (@fq _ _ _ _ _ dR v_))))) (ZA) (ZC) (ZC))) aP) (Ze (Y3 (1) fe.nd j5) (Ze (@bG _ _ _ _ _ _ _ _ hX.own Zy (@bg _ K _ _ _ (pv 0) (ZC)) (@f_ _ K _ _ _ (3) _ (by exact rfl) (@bb _ _ _ _ _ (Y6 (2) fe.nd) (@bb _ _ _ _ _ (Y6 (3) fe.nd) (@bb _ _ _ _ _ (Y6 (4) fe.nd) f7 (ZC)) (ZC)) (ZC)) (ZC) (ZC) (ZC)) (Ze (@a8 _ _ _ _ (Y5 eO hX.pass (Y8 (pv 2) (Y8 (pv 3) (Y4 (pv 4))))) (ZC)) (Ze (Zj (Zf (@qf _ _ _ _ _ hu (@eV _ _ _ _ _ (Y8 (pv 2) (Y4 (pv 3)))) (pv 1))) (Zh (@i5 _ _ _ _ _ _ _ _ _ _ hX Zy (by exact rfl) cc.m cc.e (Y4 dR) (ZA) (ZC) (ZC))) aP) (Zh (@kr _ _ _ _ _ _ _ _ _ hu (pv 1) (@eV _ _ _ _ _ (Y8 (pv 2) (Y4 (pv 3)))) (pv 4) (by exact rfl))))) (by intro _;rfl)) (Zh (Zs (pv 1)))))),?_⟩;refine⟨_,rfl,a,_,rfl, .inl (.of ha),_,_,rfl,rfl,_,rfl,?_⟩;refine a9 (fun h1=>?_) (fun h1=>?_)
  ·have h1:(60:Int)<(xs.length:Int):=by simpa using h1
   rw[ht.1]at h1;have z1:=oH (i:=60) (Zz);have w1:(Str.ofString "there are at most ").length=18:=by decide+kernel
   have w2:(Str.ofString " near forms").length=11:=by decide+kernel
   have w3:=mf;refine⟨_,rfl,aE ?_, .inr ⟨60,rfl,z1.1,_,rfl,aE ?_,_,rfl,aE ?_,aE ?_,ie,?_⟩⟩
   ·rw[len_app];omega
   ·rw[len_app,len_app];omega
   ·rw[len_app,len_app,len_app];omega
   ·rw[len_app,len_app,len_app];omega
   ·exact bad (by have:¬fs.length≤60:=(Zz);simp[bM,this]) H (.refl H)
  have h1:¬(60:Int)<(xs.length:Int):=by simpa using h1
  rw[ht.1]at h1;refine fun d hd=>?_
  have YD:H a≠none:=by rw[ha];intro z;cases z
  have eR:a≠d:=aD ha hd;refine⟨_,rfl,a,rfl,⟨xs, .of (by rw[ak eR];exact ha)⟩,?_⟩;refine bU (xs:=xs) (fun i σ H'=>(∃u v w,σ=[some (.ref a),some (.ref d),u,v,w])∧H' d=some (.dT ((fs.take i).map lD))∧ax H H'∧((fs.take i).all De=true)∧((fs.take i).map k_).Nodup) ?_ ?_ ?_ ?_
  ·exact⟨⟨_,_,_,rfl⟩,ae,ax.upd hd,rfl, .nil⟩
  ·rintro i σ H' hi ⟨_,_,s1,_⟩;exact .of (s1 _ _ ha)
  ·rintro i x σ H' hx ⟨⟨u,v,w,rfl⟩,hD,s1,bX,FR⟩;have hi:i<fs.length:=by rw[←ht.1];exact(Y' hx).1
   have hf:fs[i]?=some fs[i]:=by simp[hi]
   generalize fs[i]=f0 at hf;obtain⟨t,xU,uj⟩:=ht.2 i f0 hf;rw[hx]at xU;cases xU;obtain⟨x,y,p⟩:=f0;have hm:(x,y,p)∈fs:=Zk hf;obtain⟨lg,FT⟩:=Na.2 _ hm;refine⟨t,_,rfl, .of (s1 _ _ uj),rfl,_,_,rfl,_,_,rfl,_,_,rfl,rfl,?_⟩;refine⟨_,rfl,_,rfl,_,rfl,x,y,p,rfl,lg,FT,?_⟩;refine a9 (fun h2=>?_) (fun h2=>?_)
   rotate_left
   ·have h2:De (x,y,p)=false:=by simpa[De]using h2
    exact fun H2 s2=>bad (Eb hf h2) H2 (s1.trans s2)
   have h2:De (x,y,p)=true:=h2;intro H2 s2;have PK:=s1.trans s2;have lS:=s2 _ _ hD;refine⟨_,rfl,_,rfl,aE Zu,fun p1 LY=>?_⟩;have n1:d≠p1:=aD lS LY;refine⟨_,rfl,d,_,rfl, .t (k:=k_ (x,y,p)) (by rw[ak n1];exact lS) ae,_,rfl,?_⟩;refine a9 (fun h3=>?_) (fun h3=>?_)
   ·obtain⟨v3,h3⟩:=Option.isSome_iff_exists.mp h3;exact⟨ie,bad (Cf hf (J' h3)) _ (PK.ft (PK.free LY))⟩
   have h3:bu ((fs.take i).map lD) (k_ (x,y,p))=none:=by simpa using h3
   have s3:ax H (upd H2 p1 (.tup [.str x, .str y])):=PK.ft (PK.free LY);refine⟨_,rfl,_,rfl,_,rfl,_,rfl,aE Zu,fun p2 B4=>?_⟩;have CP:upd H2 p1 (.tup [.str x, .str y]) d=some (.dT ((fs.take i).map lD)):=by rw[ak n1];exact lS
   have n2:d≠p2:=aD CP B4;have hlen:((fs.take i).map lD).length<sizeLine:=bf (by rw[List.length_map,List.length_take];omega);refine⟨d,_,rfl, .t (k:=k_ (x,y,p)) (by rw[ak n2];exact CP) ae hlen,?_⟩;refine⟨⟨_,_,_,rfl⟩,?_,?_,?_,?_⟩
   ·rw[ae,sE _ h3,Cg hf];rfl
   ·exact(s3.ft (s3.free B4)).ft hd
   ·rw[List.take_succ,hf,List.all_append,bX];simp[h2]
   ·rw[List.take_succ,hf,List.map_append];have:=Nu h3;refine List.nodup_append.mpr ⟨FR,ZD,?_⟩;intro a1 Ac b1 jh e;have jh:b1=k_ (x,y,p):=by simpa using jh
    rw[e,jh]at Ac;exact this Ac
  ·rintro σ H' ⟨⟨u,v,w,rfl⟩,hD,s1,bX,FR⟩;rw[ht.1,List.take_length]at hD bX FR;refine⟨_,rfl,good ?_ H' d s1 hd hD⟩;have:fs.length≤60:=Zz;simp[bM,this,bX,FR]
variable(jz:DE mg "PART_MOST" (.int 100))
variable(cA:bK P w K mg base true 2 "check_number" ["name","number","low","high"] (qh dZ))
variable(g9:bK P w K mg base true 4 "near_prices" ["near"] (qi cS))
variable(Tc:Ec K aU)
theorem oY:aK ["self","same","out","into","least","part","near"] ["self","same","out","into","least","part","near"] (au br):=⟨rfl,rfl,rfl,by decide+kernel,rfl,by decide+kernel,by decide+kernel⟩
include T bO jz cA g9 Tc in
theorem oZ{f:Addr}{fd:FuncData}(F:iy K "__init__" "Terms.__init__" br f fd):aZ P w K mg base (cV P w) true 5 f fd ["self","same","out","into","least","part","near"] (sg aU dZ cS):=by
 refine F.gK oY Zv (fun bR A outer s H vs Q E hr h hX=>?_)
 ·obtain⟨x,dx,n,nv,xs,fs,rfl,_⟩:=h;rfl
 ·obtain⟨x,dx,n,nv,xs,fs,rfl,hx,Ep,WX,Na,q⟩:=h;have bad:i6 n=false→E (.ref dZ) none H:=fun e=>by rw[e]at q;exact q H .refl
  refine⟨_,(Ze (@a8 _ _ _ _ (Y5 cA hX.pass (Y8 dR (Y8 (pv 1) (Y8 af (Y4 (@fI _ _ _ _ bO (ZC) (ZA))))))) (ZC)) (Ze (@a8 _ _ _ _ (Y5 cA hX.pass (Y8 dR (Y8 (pv 2) (Y8 af (Y4 (@fI _ _ _ _ bO (ZC) (ZA))))))) (ZC)) (Ze (@a8 _ _ _ _ (Y5 cA hX.pass (Y8 dR (Y8 (pv 3) (Y8 af (Y4 (@fI _ _ _ _ bO (ZC) (ZA))))))) (ZC)) (Ze (@a8 _ _ _ _ (Y5 cA hX.pass (Y8 dR (Y8 (pv 4) (Y8 af (Y4 (@fI _ _ _ _ bO (ZC) (ZA))))))) (ZC)) (Ze (@a8 _ _ _ _ (Y5 cA hX.pass (Y8 dR (Y8 (pv 5) (Y8 af (Y4 (@fI _ _ _ _ jz (ZC) (ZA))))))) (ZC)) (Ze (Zq K (pv 0) (pv 1)) (Ze (Zq K (pv 0) (pv 2)) (Ze (Zq K (pv 0) (pv 3)) (Ze (Zq K (pv 0) (pv 4)) (Ze (Zq K (pv 0) (pv 5)) (Zl (Zq K (pv 0) (@oe _ _ _ _ _ _ _ _ (Zf (@lz _ _ _ _ _ (pv 6))) (@bI _ _ _ _ ai) (@fV _ _ _ _ _ _ _ _ _ (fD K) (by exact rfl) T.jQ PyProof.Rows.Boot.«list» (Y4 (pv 6)) (ZA) (ZA) (ZC) (ZC)))) (Zh (Zq K (pv 0) (Y5 g9 hX.pass (Y4 (Y_ K (pv 0))))))))))))))))),?_⟩;refine⟨_,rfl,"same",n.same,1,999999,rfl,by decide+kernel,Zz,Zz,?_⟩;refine a9 (fun h1=>?_) (fun h1=>bad (by simp[i6,h1]));refine⟨_,rfl,"out",n.out,0,999999,rfl,by decide+kernel,Zz,Zz,?_⟩;refine a9 (fun h2=>?_) (fun h2=>bad (by simp[i6,h2]));refine⟨_,rfl,"into",n.into,0,999999,rfl,by decide+kernel,Zz,Zz,?_⟩;refine a9 (fun h3=>?_) (fun h3=>bad (by simp[i6,h3]));refine⟨_,rfl,"least",n.least,1,999999,rfl,by decide+kernel,Zz,Zz,?_⟩;refine a9 (fun h4=>?_) (fun h4=>bad (by simp[i6,h4]));refine⟨_,rfl,"part",n.part,1,100,rfl,by decide+kernel,Zz,Zz,?_⟩;refine a9 (fun h5=>?_) (fun h5=>bad (by simp[i6,h5]));have bX:i6 n=true:=by simp[i6,h1,h2,h3,h4,h5]
  rw[bX]at q;have hl:∀k:Nat,k<10→k<1000:=fun k h=>Zz
  refine⟨_,rfl,_,rfl,x,aU,dx,_,rfl,hx,Tc.cl,Tc.same,ZA,?_⟩;refine⟨_,rfl,_,rfl,x,aU,dx,_,rfl,ae,Tc.cl,Tc.out,?_,?_⟩
  ·exact hl _ (by have:=aW "same" (.int n.same) [];simp at this;omega)
  refine⟨_,rfl,_,rfl,x,aU,dx,_,rfl,ae,Tc.cl,Tc.into,?_,?_⟩
  ·exact hl _ (Nat.lt_of_le_of_lt (aW _ _ _) (by have:=aW "same" (.int n.same) [];simp at this;omega))
  refine⟨_,rfl,_,rfl,x,aU,dx,_,rfl,ae,Tc.cl,Tc.least,?_,?_⟩
  ·show([("same", .int n.same),("out", .int n.out),("into", .int n.into)]:List (Str×V)).length<1000;simp
  refine⟨_,rfl,_,rfl,x,aU,dx,_,rfl,ae,Tc.cl,Tc.part,?_,?_⟩
  ·show([("same", .int n.same),("out", .int n.out),("into", .int n.into),("least", .int n.least)]:List (Str×V)).length<1000;simp
  rw[f6,f6,f6,f6,Rl];have b5:SameBut x H (upd H x (.ins aU dx (mR n))):=SameBut.refl.upd;refine⟨fun σ H'=>σ=[some (.ref x),some (.int n.same),some (.int n.out),some (.int n.into),some (.int n.least),some (.int n.part),some nv]∧∃l,H' x=some (.ins aU dx (bo "near" (.ref l) (mR n)))∧SameBut x H H'∧H' l=some (.lst xs)∧dP H' xs fs∧H l=none,?_,?_⟩
  ·refine⟨_,rfl,_,rfl,?_⟩;rcases WX with⟨rfl,rfl,rfl⟩|⟨a,rfl,ha,PL⟩
   ·refine jP ?_;refine⟨aE Zu,fun l jZ=>?_⟩;have n1:x≠l:=aD ae jZ;refine⟨_,rfl,x,aU,dx,_,rfl,by rw[ak n1,ae],Tc.cl,Tc.near,by simp[mR],rfl,l,ae,?_,?_, .nil,?_⟩
    ·exact(b5.laid (b5.free ae jZ)).upd
    ·rw[ak (Ne.symm n1),ae]
    ·exact b5.free ae jZ
   ·refine a9 (fun hh=>absurd hh Zu) (fun _=>?_);have n0:a≠x:=iX ha hx (by intro z;cases z);refine⟨_,rfl,a,xs,rfl, .inl (.of (by rw[ak n0];exact ha)),fun l jZ=>?_⟩;have n1:x≠l:=aD ae jZ;have b6:SameBut x H (upd (upd H x (.ins aU dx (mR n))) l (.lst xs)):=b5.laid (b5.free ae jZ);refine⟨_,rfl,x,aU,dx,_,rfl,by rw[ak n1,ae],Tc.cl,Tc.near,by simp[mR],rfl,l,ae,b6.upd,?_,?_,?_⟩
    ·rw[ak (Ne.symm n1),ae]
    ·exact PL.but b6.upd hx
    ·exact b5.free ae jZ
  ·rintro σ H' ⟨rfl,l,ui,sb,IQ,PL,WY⟩;refine⟨_,rfl,x,aU,dx,_,_,rfl,ui,Tc.cl,Tc.near,Nw n l,l,xs,fs,rfl,IQ,PL,Na,?_⟩;refine a9 (fun h6=>?_) (fun h6=>?_)
   ·rw[if_pos rfl,Zp h6]at q;intro H2 d s2 hd hD;have b2:=sb.same s2;have WZ:=sb.free ui hd;refine⟨_,rfl,x,aU,dx,_,rfl,s2 _ _ ui,Tc.cl,Tc.Ed,?_,?_⟩
    ·have:=aW "near" (.ref l) (mR n);have e5:(mR n).length=5:=rfl;exact hl _ (Zz)
    ·have nl:l≠x:=iX IQ ui (by intro z;cases z);have nd:d≠x:=iX hD (s2 _ _ ui) (by intro z;cases z);have Uy:dx≠x:=iX Ep hx (by intro z;cases z);refine q _ l d b2.upd ⟨?_,?_,?_,?_,?_⟩ WY WZ
     ·rw[ae,Ro]
     ·rw[ak Uy];exact b2 _ _ Uy Ep
     ·rw[ak nl];exact s2 _ _ IQ
     ·exact PL.but (SameBut.upd (fun b u n e=>s2 b u e)) ui
     ·rw[ak nd];exact hD
   ·rw[if_pos rfl,Zm h6]at q;exact fun H2 s2=>q H2 (sb.same s2)
theorem iD:aK ["self","x","y","price"] ["self","x","y"] (au dX):=⟨rfl,rfl,rfl,by decide+kernel,rfl,by decide+kernel,by decide+kernel⟩
include T Tc in
theorem mF{f:Addr}{fd:FuncData}(F:iy K "pair_worth" "Terms.pair_worth" dX f fd):aZ P w K mg base (cV P w) true 1 f fd ["self","x","y"] (wz aU):=by
 refine F.gK iD Zv (fun bR A outer s H vs Q E hr h hX=>?_)
 ·obtain⟨t,x,y,n,fs,dx,l,d,xs,rfl,_⟩:=h;rfl
 ·obtain⟨t,x,y,n,fs,dx,l,d,xs,rfl,T1,q⟩:=h;have hu:=hr.units;have hu:(A.deeper (PyProof.Rows.envOfC "Terms.pair_worth" (au dX) s.heap.objs.size f bR)).units+1<cLine:=Zz;refine⟨_,(Ze (Zj (Zo jm (pv 1) (pv 2) (aV _)) (Zh (Zs (Y_ K (pv 0)))) aP) (Ze (Y3 (3) iD.nd (@DM _ _ _ _ _ _ _ hu (Y_ K (pv 0)) (@eV _ _ _ _ _ (Y8 (pv 1) (Y4 (pv 2)))) ⟨rfl,rfl,rfl,rfl⟩)) (Ze (Zj (Zf (@lz _ _ _ _ _ (pv 3))) (Zh (Zs jO)) aP) (Zh (Zs (Za bZ (Y_ K (pv 0)) (pv 3))))))),?_⟩;refine⟨_,rfl,_,rfl,rfl,_,rfl,?_⟩;refine a9 (fun h=>?_) (fun h=>?_)
  ·have h:x=y:=by simpa using h
   have q:=q H (.refl H);rw[show dB n.same fs x y=some n.same by simp[dB,h]]at q;exact⟨_,rfl,t,aU,dx,_,_,rfl,T1.ob,Tc.cl,Tc.same,Ee n l d,q⟩
  have h:¬x=y:=by simpa using h
  refine⟨_,rfl,t,aU,dx,_,_,rfl,T1.ob,Tc.cl,Tc.Ed,Ef n l d,d,rfl, .inr ⟨_, .inl T1.di⟩,_,rfl,_,rfl,aE Zu,fun p hp=>?_⟩;have nd:d≠p:=aD T1.di hp;have q:=q _ (ax.upd (o:= .tup [.str x, .str y]) hp);refine⟨_, .t (k:=[.inr x, .inr y]) (by rw[ak nd];exact T1.di) ae,?_⟩;rw[vx];have T2:kx (upd H p (.tup [.str x, .str y])) aU t n fs dx l d xs:=⟨ax.upd hp _ _ T1.ob,ax.upd hp _ _ T1.own,ax.upd hp _ _ T1.li,T1.tr.same (ax.upd hp),ax.upd hp _ _ T1.di⟩
  cases e:dU fs x y with
  |none=>
   rw[show dB n.same fs x y=none by simp[dB,h,e]]at q;refine⟨_,rfl,_,rfl,?_⟩;exact jP q
  |some v=>
   rw[show dB n.same fs x y=some (n.same-v) by simp[dB,h,e]]at q;refine⟨_,rfl,_,rfl,?_⟩;refine a9 (fun hh=>absurd hh Zu) (fun _=>?_);exact⟨_,rfl,t,aU,dx,_,_,rfl,T2.ob,Tc.cl,Tc.same,Ee n l d,_,rfl,_,_,rfl,rfl,q⟩
theorem yT:aK ["numbers"] ["numbers"] (au kH):=⟨rfl,rfl,rfl,by decide+kernel,rfl,by decide+kernel,by decide+kernel⟩
include T in
theorem yU{f:Addr}{fd:FuncData}(F:jn K "greatest" "greatest" kH f fd):aZ P w K mg base (cV P w) true 1 f fd ["numbers"] lG:=by
 refine F.gK yT Zv (fun bR A outer s H vs Q E hr h hX=>?_)
 ·obtain⟨a,os,rfl,_⟩:=h;rfl
 ·obtain⟨a,os,rfl,ha,hl,q⟩:=h;refine⟨_,(Zh (Zs (@GO _ K _ _ _ _ _ _ _ (by exact rfl) (by exact rfl) T.Il (@oF _ _ _ _ _ _ _ _ _ _ _ _ _ _ (by exact rfl) (show bB ["numbers"] (au kH) _ ["number"] [] []from⟨rfl,by decide+kernel,by decide+kernel,by decide+kernel,rfl,rfl,by decide+kernel,by decide+kernel,by decide+kernel⟩) (@bg _ K _ _ _ (pv 0) (ZC)) (fun _ _ _ _ _=>(Y6 (0) (show(["number"]:List Str).Nodup by decide+kernel))) (fun _ _ _ _ _=>(@we _ _ _ (Zf (@oa _ _ _ _ _ (pv 0))))) (fun _ _ _ _ _=>(pv 0)) (by intro _;rfl)) (ZC) (ZC)))),?_⟩;refine⟨_,rfl,a,rfl,⟨_, .of ha⟩,fun D hD=>?_⟩;refine iU (xs:=os.map bA) (fun i ys bD H'=>(∃u,bD=[u])∧ys=((os.take i).filterMap id).map V.int∧H' D=some (.lst ys)∧ax H H') ⟨⟨_,rfl⟩,rfl,ae,ax.upd hD⟩ ?_ ?_ ?_
  ·rintro i ys bD H' _ ⟨_,_,_,s1⟩;exact .of (s1 _ _ ha)
  ·rintro i x ys bD H' hx ⟨⟨u,rfl⟩,rfl,rP,s1⟩;have hi:i<os.length:=by have:=(Y' hx).1;simpa using this
   have ho:os[i]?=some os[i]:=by simp[hi]
   generalize os[i]=o at ho;have ex:x=bA o:=by
    rw[List.getElem?_map,ho]at hx;exact(Zt hx).symm
   subst ex;have hZ:(((os.take i).filterMap id).map V.int).length<sizeLine:=bf (by
    have:=List.length_filterMap_le id (os.take i);rw[List.length_take]at this;rw[List.length_map];omega)
   have e1:os.take (i+1)=os.take i++[o]:=by rw[List.take_succ,ho];rfl
   refine⟨_,rfl,_,rfl,?_⟩;cases o with
   |none=>
    refine a9 (fun hh=>absurd hh (by simp[bA])) (fun _=>?_);exact⟨⟨_,rfl⟩,by rw[e1];simp,rP,s1⟩
   |some v=>
    refine a9 (fun _=>?_) (fun hh=>absurd (by simp[bA]) hh);exact⟨_,rfl,rP,hZ,⟨_,rfl⟩,by rw[e1];simp[bA],ae,s1.ft hD⟩
  ·rintro ys bD H' ⟨_,rfl,rP,s1⟩;rw[List.length_map,List.take_length]at rP;refine⟨D,os.filterMap id,rfl, .of rP,?_⟩;rw[GR];exact q H' s1
theorem Hr:aK ["number","price"] ["number","price"] (au Aw):=⟨rfl,rfl,rfl,by decide+kernel,rfl,by decide+kernel,by decide+kernel⟩
include T in
theorem Hs{f:Addr}{fd:FuncData}(F:jn K "less" "less" Aw f fd):aZ P w K mg base (cV P w) true 1 f fd ["number","price"] wH:=by
 refine F.gK Hr Zv (fun bR A outer s H vs Q E hr h hX=>?_)
 ·obtain⟨o,p,rfl,_⟩:=h;rfl
 ·obtain⟨o,p,rfl,q⟩:=h;refine⟨_,(Zh (Zs (@oe _ _ _ _ _ _ _ _ (Zf (@lz _ _ _ _ _ (pv 0))) jO (Za bZ (pv 0) (pv 1))))),?_⟩;refine⟨_,rfl,_,rfl,?_⟩;cases o with
  |none=>
   refine jP ?_;exact q
  |some v=>
   refine a9 (fun hh=>absurd hh (by simp[bA])) (fun _=>?_);exact⟨_,rfl,_,rfl,_,_,rfl,rfl,q⟩
theorem mG:aK ["worth","brought"] ["worth","brought"] (au fQ):=⟨rfl,rfl,rfl,by decide+kernel,rfl,by decide+kernel,by decide+kernel⟩
include T in
theorem mH{f:Addr}{fd:FuncData}(F:jn K "begun_or_gone_on" "begun_or_gone_on" fQ f fd):aZ P w K mg base (cV P w) true 1 f fd ["worth","brought"] ZL:=by
 refine F.gK mG Zv (fun bR A outer s H vs Q E hr h hX=>?_)
 ·obtain⟨w,b,rfl,_⟩:=h;rfl
 ·obtain⟨w,b,rfl,q⟩:=h;refine⟨_,(Ze (Zj (Zf (@lz _ _ _ _ _ (pv 0))) (Zh (Zs jO)) aP) (Ze (Zj (@PW.pt _ _ _ (@pw_or _ _ _ _ _ _ _ (Zf (@lz _ _ _ _ _ (pv 1))) (@pw_or1 _ _ _ _ (Zo mP (pv 1) af (aV _))))) (Zh (Zs (pv 0))) aP) (Zh (Zs (Za bp (pv 0) (pv 1)))))),?_⟩;refine⟨_,rfl,_,rfl,?_⟩;cases w with
  |none=>
   refine jP ?_;exact q
  |some w=>
   refine a9 (fun hh=>absurd hh (by simp[bA])) (fun _=>?_);refine⟨_,rfl,_,rfl,?_⟩;cases b with
   |none=>
    refine jP ?_;refine jP ?_;exact⟨_,rfl,q⟩
   |some b=>
    refine a9 (fun hh=>absurd hh (by simp[bA])) (fun _=>?_);refine⟨_,rfl,_,_,rfl,rfl,_,rfl,?_⟩;refine a9 (fun hh=>?_) (fun hh=>?_)
    ·have hh:b<0:=by simpa using hh
     simp only[GQ,hh,if_true]at q;exact⟨_,rfl,q⟩
    ·have hh:¬b<0:=by simpa using hh
     simp only[GQ,hh,if_false]at q;exact⟨_,rfl,_,rfl,_,_,rfl,rfl,q⟩
variable(ff:bK P w K mg base true 1 "greatest" ["numbers"] lG)
variable(kO:bK P w K mg base true 1 "less" ["number","price"] wH)
variable(Rc:Bh K aA)
theorem cw:aK ["self","ended","above","row","j","worth"] ["self","ended","above"] (au dI):=⟨rfl,rfl,rfl,by decide+kernel,rfl,by decide+kernel,by decide+kernel⟩
include T ff kO Rc in
theorem jV{f:Addr}{fd:FuncData}(F:iy K "brought_behind" "Trails.brought_behind" dI f fd):aZ P w K mg base (cV P w) true 2 f fd ["self","ended","above"] (qo aA):=by
 refine F.gK cw Zv (fun bR A outer s H vs Q E hr h hX=>?_)
 ·obtain⟨x,e,a,dx,te,tb,o,p,m,f,g,rfl,_⟩:=h;rfl
 ·obtain⟨x,e,a,dx,te,tb,o,p,m,f1,g,rfl,hx,he,ha,hm,q⟩:=h;refine⟨_,(Ze (Y3 (3) cw.nd (@bI _ _ _ _ (Y4 jO))) (Ze (@bG _ _ _ _ _ _ _ _ hX.own Zy (@oJ _ K _ _ _ _ _ _ _ (by exact rfl) T.jq (Y4 (pv 1)) (ZC) (ZC)) (@f_ _ K _ _ _ (2) _ (by exact rfl) (@bb _ _ _ _ _ (Y6 (4) cw.nd) (@bb _ _ _ _ _ (Y6 (5) cw.nd) f7 (ZC)) (ZC)) (ZC) (ZC) (ZC)) (Zh (@a8 _ _ _ _ (Zd K PySem.F.plainAttrs_list PySem.F.slot_list_append PySem.F.type_list_append bQ (pv 3) (Y4 (Y5 ff aQ (Y4 (@bI _ _ _ _ (Y8 (pv 5) (Y8 (Y5 kO aQ (Y8 (Y7 (pv 2) (Za bp (pv 4) af)) (Y4 (Y_ K (pv 0))))) (Y4 (Y5 kO aQ (Y8 (Y7 (pv 3) (pv 4)) (Y4 (Y_ K (pv 0))))))))))))) (ZC))) (by intro _;rfl)) (Zh (Zs (pv 3))))),?_⟩;refine⟨aE Zu,fun r FU=>?_⟩;refine⟨_,rfl,e,rfl,⟨_, .of (ax.upd FU _ _ he)⟩,?_⟩;have hl:=cZ m f1;refine yt (xs:=cY m f1) (fun i σ H'=>(∃u v,σ=[some (.ref x),some (.ref e),some (.ref a),some (.ref r),u,v])∧ax H H'∧H' r=some (.lst (cY (i+1) (rK f1 g o p)))) ?_ ?_ ?_ ?_
  ·exact⟨⟨_,_,rfl⟩,ax.upd FU,by rw[ae];simp[cY,rK,bA,List.range_succ]⟩
  ·rintro i σ H' _ ⟨_,s1,_⟩;exact .of (s1 _ _ he)
  ·rintro i v T' σ H' hv ⟨⟨u,u2,rfl⟩,s1,Z1⟩ hT;have hi:i<m:=by have:=(Y' hv).1;omega
   rw[c7 hi]at hv;cases hv;have s2:ax H (upd H' T' (.tup [.int i,bA (f1 i)])):=s1.trans (ax.upd hT);have xf:=ax.upd (o:= .tup [.int i,bA (f1 i)]) hT _ _ Z1;refine⟨T',_,rfl, .of ae,rfl,_,_,rfl,_,_,rfl,rfl,?_⟩;generalize upd H' T' (.tup [.int i,bA (f1 i)])=H2 at s2 xf;have W0:rj (cY (m+1) g) ((i:Int)+1)=some (bA (g (i+1))):=by
    have:((i:Int)+1)=((i+1:Nat):Int):=Zz;rw[this];exact ar (c7 Zw)
   have at2:rj (cY (i+1) (rK f1 g o p)) (i:Int)=some (bA (rK f1 g o p i)):=ar (c7 Zw);refine⟨_,rfl, .inl ⟨rfl,_, .of xf⟩,_,rfl,_,rfl,_,rfl,_,_,rfl,rfl,a,_,_,_,rfl,rfl, .of (s2 _ _ ha),W0,_,rfl,x,aA,dx,_,_,rfl,s2 _ _ hx,Rc.cl,Rc.out,Iv o p te tb,g (i+1),o,rfl,_,rfl,_,rfl,r,_,_,_,rfl,rfl, .of xf,at2,_,rfl,x,aA,dx,_,_,rfl,s2 _ _ hx,Rc.cl,Rc.into,Eu o p te tb,rK f1 g o p i,p,rfl,aE Zu,fun L hL=>⟨L,[f1 i,bx (g (i+1)) o,bx (rK f1 g o p i) p],rfl,ae,ZD,fun H3 s3=>?_⟩⟩;have s4:=(ax.upd (o:= .lst [bA (f1 i),bA (bx (g (i+1)) o),bA (bx (rK f1 g o p i) p)]) hL).trans s3;exact⟨r,_,_,rfl,rfl,s4 _ _ xf,bf (by rw[cZ];omega),⟨_,_,rfl⟩,(s2.trans s4).ft FU,by rw[ae,qm (i+1)];rfl⟩
  ·rintro σ H' ⟨⟨u,v,rfl⟩,s1,Z1⟩;rw[hl]at Z1;exact⟨_,rfl,q H' r s1 FU Z1⟩
variable(d7:bK P w K mg base true 1 "begun_or_gone_on" ["worth","brought"] ZL)
variable(cC:eF P w K mg base true 2 aA "brought_behind" ["self","ended","above"] (qo aA))
theorem cK:aK ["self","worths","terms","width","row","above","ended"] ["self","worths","terms"] (au eK):=⟨rfl,rfl,rfl,by decide+kernel,rfl,by decide+kernel,by decide+kernel⟩
include T Tc Rc d7 cC in
theorem nK{f:Addr}{fd:FuncData}(F:iy K "__init__" "Trails.__init__" eK f fd):aZ P w K mg base (cV P w) true 4 f fd ["self","worths","terms"] (qw aA aU):=by
 refine F.gK cK Zv (fun bR A outer s H vs Q E hr h hX=>?_)
 ·obtain⟨x,dx,w,t,c,as,f,n,m,rfl,_⟩:=h;rfl
 ·obtain⟨x,dx,w,t,c,as,f1,n,m,rfl,hx,Ep,hw,TA,TF,hn,hm,q⟩:=h;obtain⟨nu,dt,l,d,vs,T1,e1,e2,e3,e4⟩:=TF;have R5:w≠x:=iX hw hx (by intro z;cases z);have PM:t≠x:=fun z=>by
   have h1:=T1.ob;rw[z,hx]at h1;have h2:=congrArg (fun o=>match o with|some (HO.ins _ _ fs)=>fs.length| _=>0) h1;simp[wm]at h2
  refine⟨_,(Zl (Zq K (pv 0) (Y_ K (pv 2))) (Zl (Zq K (pv 0) (Y_ K (pv 2))) (Zl (Y3 (3) cK.nd (@oe _ _ _ _ _ _ _ _ (Zo oh (Y9 (aJ K) T.cP (Y4 (pv 1))) af (aV _)) (Y9 (aJ K) T.cP (Y4 (Y7 (pv 1) af))) af)) (Zl (Zq K (pv 0) (@bI _ _ _ _ ai)) (Zl (Zq K (pv 0) (@bI _ _ _ _ (Y4 (Za J0 (@bI _ _ _ _ (Y4 jO)) (Za bp (pv 3) af))))) (Zh (@bG _ _ _ _ _ _ _ _ hX.own Zy (@bg _ K _ _ _ (pv 1) (ZC)) (Y6 (4) cK.nd) (Zl (@aG _ _ (5) _ _ _ _ cK.nd Zy (Or.inr rfl) (Y7 (Y_ K (pv 0)) (@rf _ _ _ _ _ _ lB af)) (ZC) (by exact .inl rfl)) (Zl (@me _ _ _ _ _ _ _ _ _ _ _ _ _ _ _ (6) _ _ (by exact rfl) cK.nd Zy (by exact rfl) (show bB ["self","worths","terms","width","row","above","ended"] (au eK) _ ["j","worth"] [5] ["above"]from⟨rfl,by decide+kernel,by decide+kernel,by decide+kernel,rfl,rfl,by decide+kernel,by decide+kernel,by decide+kernel⟩) (@oJ _ K _ _ _ _ _ _ _ (by exact rfl) T.jq (Y4 (pv 4)) (ZC) (ZC)) (fun _ _ _ _ _=>(@f_ _ K _ _ _ (2) _ (by exact rfl) (@bb _ _ _ _ _ (Y6 (0) (show(["j","worth","above"]:List Str).Nodup by decide+kernel)) (@bb _ _ _ _ _ (Y6 (1) (show(["j","worth","above"]:List Str).Nodup by decide+kernel)) f7 (ZC)) (ZC)) (ZC) (ZC) (ZC))) (fun _ _ _ _ _=>jo) (fun _ _ _ _ _=>(Y5 d7 aQ (Y8 (pv 1) (Y4 (Y7 (pv 2) (pv 0)))))) (ZC) (by intro _;rfl)) (Zl (@a8 _ _ _ _ (Zd K PySem.F.plainAttrs_list PySem.F.slot_list_append PySem.F.type_list_append bQ (Y_ K (pv 0)) (Y4 (pv 6))) (ZC)) (Zh (@a8 _ _ _ _ (Zd K PySem.F.plainAttrs_list PySem.F.slot_list_append PySem.F.type_list_append bQ (Y_ K (pv 0)) (Y4 (Zg (pv 0) cC (hr.mono (ZA)) aQ (Y8 (pv 6) (Y4 (pv 5)))))) (ZC)))))) (by intro _;rfl)))))))),?_⟩;refine⟨fun σ H1=>σ=[some (.ref x),some (.ref w),some (.ref t),none,none,none,none]∧H1=upd H x (.ins aA dx (bo "out" (.int c.out) [])),?_,?_⟩
  ·refine⟨_,rfl,t,aU,dt,_,_,rfl,T1.ob,Tc.cl,Tc.out,l_out nu l d,_,rfl,x,aA,dx,_,rfl,hx,Rc.cl,Rc.out,ZA,rfl,?_⟩;rw[e2]
  rintro σ H1 ⟨rfl,rfl⟩;refine⟨fun σ H1=>σ=[some (.ref x),some (.ref w),some (.ref t),none,none,none,none]∧H1=upd H x (.ins aA dx (bo "into" (.int c.into) (bo "out" (.int c.out) []))),?_,?_⟩
  ·refine⟨_,rfl,t,aU,dt,_,_,rfl,by rw[ak PM];exact T1.ob,Tc.cl,Tc.into,Ka nu l d,_,rfl,x,aA,dx,_,rfl,ae,Rc.cl,Rc.into,?_,rfl,?_⟩
   ·have:=aW "out" (.int c.out) [];simp at this;omega
   ·rw[f6,e3]
  rintro σ H1 ⟨rfl,rfl⟩;refine⟨fun σ H1=>∃wd:Int,σ=[some (.ref x),some (.ref w),some (.ref t),some (.int wd),none,none,none]∧H1=upd H x (.ins aA dx (bo "into" (.int c.into) (bo "out" (.int c.out) [])))∧(0<n→wd=(m:Int))∧0≤wd∧wd≤1000,?_,?_⟩
  ·have rQ:upd H x (.ins aA dx (bo "into" (.int c.into) (bo "out" (.int c.out) []))) w=some (.lst (as.map V.ref)):=by rw[ak R5];exact hw
   have BE:=TA.len;refine⟨_,rfl,w,_,rfl, .inl (.of rQ),_,_,rfl,rfl,_,rfl,?_⟩;refine a9 (fun hh=>?_) (fun hh=>?_)
   ·have hh:0<n:=by
     have:(0:Int)<((as.map V.ref).length:Int):=by simpa using hh
     rw[List.length_map]at this;omega
    obtain⟨a,Ac,LZ,Uz⟩:=TA.at hh;have Of:a≠x:=iX Uz hx (by intro z;cases z);have W4:upd H x (.ins aA dx (bo "into" (.int c.into) (bo "out" (.int c.out) []))) a=some (.lst (cY m (f1 0))):=by rw[ak Of];exact Uz
    refine⟨_,rfl,w,_,0,_,rfl,rfl, .of rQ,ar (j:=0) LZ,a,_,rfl, .inl (.of W4),_,rfl,rfl,fun _=>by rw[cZ],by rw[cZ];omega,by rw[cZ];omega⟩
   ·have hh:n=0:=by
     have:¬(0:Int)<((as.map V.ref).length:Int):=by simpa using hh
     rw[List.length_map]at this;omega
    exact⟨_,rfl,rfl,fun z=>Zz,Zz,Zz⟩
  rintro σ H1 ⟨wd,rfl,rfl,W5,YE,YF⟩;refine⟨fun σ H1=>∃e,σ=[some (.ref x),some (.ref w),some (.ref t),some (.int wd),none,none,none]∧H1 x=some (.ins aA dx (bo "ending" (.ref e) (bo "into" (.int c.into) (bo "out" (.int c.out) []))))∧SameBut x H H1∧H e=none∧H1 e=some (.lst []),?_,?_⟩
  ·refine⟨aE Zu,fun e he=>?_⟩;have xV:SameBut x H (upd H x (.ins aA dx (bo "into" (.int c.into) (bo "out" (.int c.out) [])))):=SameBut.refl.upd;have UA:x≠e:=aD ae he;have IS:=xV.free ae he;refine⟨_,rfl,x,aA,dx,_,rfl,by rw[ak UA,ae],Rc.cl,Rc.kD,?_,e,rfl,ae,(xV.laid IS).upd,IS,by rw[ak (Ne.symm UA),ae]⟩;have a1:=aW "into" (.int c.into) (bo "out" (.int c.out) []);have a2:=aW "out" (.int c.out) [];simp at a2;omega
  rintro σ H1 ⟨e,rfl,lg,xV,IS,Az⟩;refine⟨fun σ H2=>∃b ab,σ=[some (.ref x),some (.ref w),some (.ref t),some (.int wd),none,none,none]∧H2 x=some (.ins aA dx (gM c.out c.into e b))∧SameBut x H H2∧H2 e=some (.lst [])∧H b=none∧e≠b∧H2 b=some (.lst [.ref ab])∧(0<n→H2 ab=some (.lst (cY (m+1) (Bq f1 c.out c.into 0))))∧ab≠e∧ab≠b∧H ab=none,?_,?_⟩
  ·refine⟨aE Zu,fun l1 jZ=>⟨_,rfl,_,_,rfl,rfl,l1,_,_,rfl,rfl,ae,Zz,Zz,aE (by simp;omega),fun ab E6=>⟨aE Zu,fun b hb=>?_⟩⟩⟩;have s1:ax H1 (upd (upd (upd H1 l1 (.lst [.cN])) ab (.lst (List.replicate (wd+1).toNat [V.cN]).flatten)) b (.lst [.ref ab])):=((ax.upd jZ).trans (ax.upd E6)).trans (ax.upd hb);have jh:H1 b=none:=((ax.upd jZ).trans (ax.upd E6)).free hb;have xW:=s1 _ _ lg;have W6:x≠b:=aD lg jh;have IU:ab≠b:=aD ae hb;refine⟨_,rfl,x,aA,dx,_,rfl,xW,Rc.cl,Rc.jv,?_,b,ab,rfl,by rw[ae,NG],(xV.same s1).upd,?_,xV.free lg jh,aD Az jh,?_,fun h0=>?_,?_,IU,xV.free lg ((ax.upd jZ).free E6)⟩
   ·have a0:=aW "ending" (.ref e) (bo "into" (.int c.into) (bo "out" (.int c.out) []));have a1:=aW "into" (.int c.into) (bo "out" (.int c.out) []);have a2:=aW "out" (.int c.out) [];simp at a2;omega
   ·have:e≠x:=iX Az lg (by intro z;cases z);rw[ak this];exact s1 _ _ Az
   ·rw[ak (Ne.symm W6),ae]
   ·have UB:ab≠x:=fun z=>by rw[z]at E6;rw[(ax.upd jZ) _ _ lg]at E6;cases E6
    rw[ak UB,ak IU,ae,W5 h0]
    congr 1
    have:((m:Int)+1).toNat=m+1:=Zz;rw[this]
    congr 1
    apply List.ext_getElem?;intro k;by_cases hk:k<m+1
    ·rw[c7 hk,iG];simp[bA,hk]
    ·rw[List.getElem?_eq_none (by simp;omega),List.getElem?_eq_none (by rw[cZ];omega)]
   ·exact Ne.symm (aD ((ax.upd jZ) _ _ Az) E6)
  clear lg xV Az H1;rintro σ H1 ⟨b,ab,rfl,lg,xV,Az,UC,UD,jh,Ht,Og,IU,Dq⟩;refine⟨_,rfl,w,rfl,⟨_, .of (xV _ _ R5 hw)⟩,?_⟩;refine bU (xs:=as.map V.ref) (fun i σ H'=>(∃u1 u2 u3,σ=[some (.ref x),some (.ref w),some (.ref t),some (.int wd),u1,u2,u3])∧H' x=some (.ins aA dx (gM c.out c.into e b))∧SameBut x H H'∧∃(es:List Addr)(bs:List V)(ab:Addr),H' e=some (.lst (es.map V.ref))∧i7 H' es (dC f1 c.out c.into) i m∧(∀a∈es,H a=none∧a≠e∧a≠b∧a≠x)∧H' b=some (.lst (bs++[.ref ab]))∧bs.length=i∧(0<n→H' ab=some (.lst (cY (m+1) (Bq f1 c.out c.into i))))∧ab≠e∧ab≠b∧H ab=none∧∃bz:List Addr,bs=bz.map V.ref∧∀k a,bz[k]?=some a→H' a=some (.lst (cY (m+1) (Bq f1 c.out c.into k)))∧a≠e∧a≠b∧H a=none) ?_ ?_ ?_ ?_
  ·exact⟨⟨_,_,_,rfl⟩,lg,xV,[],[],ab,Az,⟨rfl,fun i a h=>by simp at h⟩,(fun a h=>by cases h),jh,rfl,Ht,Og,IU,Dq,[],rfl,fun k a h=>by simp at h⟩
  ·rintro i σ H' _ ⟨_,_,sb,_⟩;exact .of (sb _ _ R5 hw)
  ·clear lg xV Az jh Ht Og IU Dq ab H1;rintro i v σ H' hv ⟨⟨u1,u2,u3,rfl⟩,lg,xV,es,bs,ab,Az,TE,Oh,jh,Hu,Ht,Og,IU,Dq,bz,Oi,BZ⟩;have BE:=TA.len;have hi:i<n:=by have:=(Y' hv).1;rw[List.length_map]at this;omega
   obtain⟨ra,FU,Z1,xf⟩:=TA.at hi;rw[Z1]at hv;cases hv;have W7:ra≠x:=iX xf hx (by intro z;cases z);have PN:=xV _ _ W7 xf;have CQ:=Ht Zw;refine⟨fun σ H2=>σ=[some (.ref x),some (.ref w),some (.ref t),some (.int wd),some (.ref ra),some (.ref ab),u3]∧H2=H',?_,?_⟩
   ·exact⟨_,rfl,x,aA,dx,_,_,rfl,lg,Rc.cl,Rc.jv,gP c.out c.into e b,_,rfl,b,_,_,_,rfl,rfl, .of jh,ym _ _,rfl,rfl⟩
   rintro σ H' ⟨rfl,rfl⟩;refine⟨fun σ H2=>∃D,σ=[some (.ref x),some (.ref w),some (.ref t),some (.int wd),some (.ref ra),some (.ref ab),some (.ref D)]∧ax H' H2∧H' D=none∧H2 D=some (.lst (cY m (dC f1 c.out c.into i))),?_,?_⟩
   ·refine⟨_,rfl,ra,rfl,⟨_, .of PN⟩,fun D hD=>?_⟩;refine vz (xs:=cY m (f1 i)) (fun j ys bD H2=>(∃w1 w2,bD=[w1,w2,some (.ref ab)])∧ys=cY j (dC f1 c.out c.into i)∧H2 D=some (.lst ys)∧ax H' H2) ⟨⟨_,_,rfl⟩,rfl,ae,ax.upd hD⟩ ?_ ?_ ?_
    ·rintro j ys bD H2 _ ⟨_,_,_,s2⟩;exact .of (s2 _ _ PN)
    ·rintro j y T2 ys bD H2 hy ⟨⟨w1,w2,rfl⟩,rfl,lS,s2⟩ Oj;have hj:j<m:=by have:=(Y' hy).1;rw[cZ]at this;exact this
     rw[c7 hj]at hy;cases hy;have s3:ax H' (upd H2 T2 (.tup [.int j,bA (f1 i j)])):=s2.trans (ax.upd Oj);have CP:=ax.upd (o:= .tup [.int j,bA (f1 i j)]) Oj _ _ lS;refine⟨T2,_,rfl, .of ae,rfl,_,_,rfl,_,_,rfl,rfl,?_⟩;refine wg ?_;refine⟨_,rfl,_,rfl,_,rfl,ab,_,_,_,rfl,rfl, .of (s3 _ _ CQ),ar (c7 Zw),f1 i j,Bq f1 c.out c.into i j,rfl,CP,bf (by rw[cZ];omega),⟨_,_,rfl⟩,by rw[qm];rfl,ae,s3.ft hD⟩
    ·rintro ys bD H2 ⟨_,rfl,lS,s2⟩;rw[cZ]at lS;exact⟨D,rfl,s2,hD,lS⟩
   rintro σ H2 ⟨D,rfl,s2,L5,lS⟩;have xW:=s2 _ _ lg;have L6:=s2 _ _ Az;have w8:=s2 _ _ jh;have R6:=s2 _ _ CQ;have W8:D≠x:=Ne.symm (aD lg L5);have UE:D≠e:=Ne.symm (aD Az L5);have UG:D≠b:=Ne.symm (aD jh L5);have W9:e≠x:=iX Az lg (by intro z;cases z);have W_:b≠x:=iX jh lg (by intro z;cases z);have UB:ab≠x:=iX CQ lg (by intro z;cases z);have Hv:=TE.len;have Xa:H D=none:=xV.free lg L5;have R7:=xV.same s2;refine⟨fun σ H3=>σ=[some (.ref x),some (.ref w),some (.ref t),some (.int wd),some (.ref ra),some (.ref ab),some (.ref D)]∧H3=upd H2 e (.lst (es.map V.ref++[.ref D])),?_,?_⟩
   ·exact⟨_,rfl,x,aA,dx,_,_,rfl,xW,Rc.cl,Rc.kD,ig c.out c.into e b, .inl ⟨rfl,_, .of L6⟩,_,rfl,e,_,_,rfl,rfl,L6,bf (by rw[List.length_map];omega),rfl,rfl⟩
   rintro σ H3 ⟨rfl,rfl⟩;have L7:upd H2 e (.lst (es.map V.ref++[.ref D])) x=some (.ins aA dx (gM c.out c.into e b)):=by rw[ak (Ne.symm W9)];exact xW
   have PQ:upd H2 e (.lst (es.map V.ref++[.ref D])) b=some (.lst (bs++[.ref ab])):=by rw[ak (Ne.symm UD)];exact w8
   have Ln:upd H2 e (.lst (es.map V.ref++[.ref D])) ab=some (.lst (cY (m+1) (Bq f1 c.out c.into i))):=by rw[ak Og];exact R6
   have CP:upd H2 e (.lst (es.map V.ref++[.ref D])) D=some (.lst (cY m (dC f1 c.out c.into i))):=by rw[ak UE];exact lS
   have FV:upd H2 e (.lst (es.map V.ref++[.ref D])) e=some (.lst (es.map V.ref++[.ref D])):=ae;have R8:SameBut x H (upd H2 e (.lst (es.map V.ref++[.ref D]))):=R7.laid IS;have UH:∀k a,es[k]?=some a→upd H2 e (.lst (es.map V.ref++[.ref D])) a=some (.lst (cY m (dC f1 c.out c.into k))):=fun k a hk=>by
    rw[ak (Oh a (Zk hk)).2.1];exact s2 _ _ (TE.row k a hk)
   have UI:∀k a,bz[k]?=some a→upd H2 e (.lst (es.map V.ref++[.ref D])) a=some (.lst (cY (m+1) (Bq f1 c.out c.into k))):=fun k a hk=>by
    rw[ak (BZ k a hk).2.1];exact s2 _ _ (BZ k a hk).1
   generalize upd H2 e (.lst (es.map V.ref++[.ref D]))=H3 at L7 PQ Ln CP FV R8 UH UI;refine⟨_,rfl,x,aA,dx,_,_,rfl,L7,Rc.cl,Rc.jv,gP c.out c.into e b, .inl ⟨rfl,_, .of PQ⟩,_,rfl,x,dx,_,rfl,L7,Ew c.out c.into e b,_,rfl,_,rfl,x,D,ab,dx,e,b,c.out,c.into,m,_,_,rfl,L7,CP,Ln,hm,fun H4 r s4 rz Xb=>?_⟩;have UJ:r≠b:=Ne.symm (aD PQ rz);have Xc:r≠e:=Ne.symm (aD FV rz);refine⟨b,_,_,rfl,rfl,s4 _ _ PQ,bf (by rw[List.length_append];simp;omega),⟨_,_,_,rfl⟩,by rw[ak (Ne.symm W_)];exact s4 _ _ L7,(R8.same s4).laid UC,es++[D],bs++[.ref ab],r,by rw[ak UD];rw[s4 _ _ FV];simp,⟨by simp[Hv],fun k a hk=>?_⟩,fun a ha=>?_,ae,by simp[Hu],fun _=>?_,Xc,UJ,R8.free L7 rz,bz++[ab],by simp[Oi],fun k a hk=>?_⟩
   ·by_cases h:k<i
    ·rw[List.getElem?_append_left Zw]at hk;rw[ak (Oh a (Zk hk)).2.2.1];exact s4 _ _ (UH k a hk)
    ·rw[List.getElem?_append_right Zw]at hk;have wO:k-es.length=0:=by
      have:=(Y' hk).1;simp at this;omega
     rw[wO]at hk;have:D=a:=by simpa using hk
     subst this;rw[ak UG];have:k=i:=Zz;rw[this];exact s4 _ _ CP
   ·rcases List.mem_append.mp ha with ha|ha
    ·exact Oh a ha
    ·have:a=D:=by simpa using ha
     rw[this];exact⟨Xa,UE,UG,W8⟩
   ·rw[ak UJ,Xb]
    congr 2
    unfold cY;apply List.map_congr_left;intro j _;rw[Bi]
   ·have Ol:bz.length=i:=by rw[Oi,List.length_map]at Hu;exact Hu
    by_cases h:k<i
    ·rw[List.getElem?_append_left Zw]at hk;obtain⟨_,z1,z2,z3⟩:=BZ k a hk;exact⟨by rw[ak z2];exact s4 _ _ (UI k a hk),z1,z2,z3⟩
    ·rw[List.getElem?_append_right Zw]at hk;have wO:k-bz.length=0:=by
      have:=(Y' hk).1;simp at this;omega
     rw[wO]at hk;have:ab=a:=by simpa using hk
     subst this;have:k=i:=Zz;subst this;exact⟨by rw[ak IU];exact s4 _ _ Ln,Og,IU,Dq⟩
  ·rintro σ H' ⟨⟨u1,u2,u3,rfl⟩,xW,R7,es,bs,R9,L6,TE,Oh,w8,Hu,CQ,Xd,Xe,LZ,bz,Oi,BZ⟩;rw[List.length_map,TA.len]at TE Hu CQ;have Ol:bz.length=n:=by rw[Oi,List.length_map]at Hu;exact Hu
   refine q H' e b R7 xW ⟨es,L6,IS,TE,fun a ha=>(Oh a ha).1⟩ fun R_=>⟨bz++[R9],by rw[w8,Oi];simp,UC,⟨by simp[Ol],fun k a hk=>?_⟩,fun a ha=>?_⟩
   ·by_cases h:k<n
    ·rw[List.getElem?_append_left Zw]at hk;exact(BZ k a hk).1
    ·rw[List.getElem?_append_right Zw]at hk;have wO:k-bz.length=0:=by
      have:=(Y' hk).1;simp at this;omega
     rw[wO]at hk;have:R9=a:=by simpa using hk
     subst this;have:k=n:=Zz;subst this;exact CQ R_
   ·rcases List.mem_append.mp ha with ha|ha
    ·obtain⟨k,hk,rfl⟩:=List.mem_iff_getElem.mp ha;exact(BZ k _ (by simp[hk])).2.2.2
    ·have:a=R9:=by simpa using ha
     rw[this];exact LZ
theorem jA:aK ["self","pair","brought"] ["self","pair"] (au gR):=⟨rfl,rfl,rfl,by decide+kernel,rfl,by decide+kernel,by decide+kernel⟩
include T Rc in
theorem o6{f:Addr}{fd:FuncData}(F:iy K "goes_on" "Trails.goes_on" gR f fd):aZ P w K mg base (cV P w) true 1 f fd ["self","pair"] (wR aA):=by
 refine F.gK jA Zv (fun bR A outer s H vs Q E hr h hX=>?_)
 ·obtain⟨x,dx,e,b,es,bs,f,o,p,n,m,pr,i,j,rfl,_⟩:=h;rfl
 ·obtain⟨x,dx,e,b,es,bs,f1,o,p,n,m,pr,i,j,rfl,TR,BJ,hi,hj,q⟩:=h;refine⟨_,(Ze (Y3 (2) jA.nd (Y7 (Y7 (Y_ K (pv 0)) (Zr (bT K) (pv 1) af)) (Zr (bT K) (pv 1) af))) (Zh (Zs (@vS _ _ _ _ _ _ _ (@ZJ _ _ _ _ _ _ (@oa _ _ _ _ _ (pv 2)) (by first|exact bh _ (ZA) (ZA)|rfl)) (@vR _ _ _ _ _ (@iE _ _ _ _ _ _ _ _ ye (pv 2) af (aV _))))))),?_⟩;obtain⟨ra,h1,h2,h3⟩:=TR.tb.at (show i<n+1 by omega);refine⟨_,rfl,x,aA,dx,_,_,rfl,TR.ob,Rc.cl,Rc.jv,gP o p e b,_,rfl,pr,_,_,_,rfl,rfl, .of BJ,ar (j:=0) rfl,b,_,_,_,rfl,rfl, .of TR.hb,ar h2,_,rfl,pr,_,_,_,rfl,rfl, .of BJ,ar (j:=1) rfl,ra,_,_,_,rfl,rfl, .of h3,ar (c7 (show j<m+1 by omega)),?_⟩;refine⟨_,rfl,?_⟩;cases eB:Bq f1 o p i j with
  |none=>
   rw[eB]at q;exact⟨_,rfl,a9 (fun hh=>absurd hh (by simp[bA])) fun _=>q⟩
  |some v=>
   rw[eB]at q;exact⟨_,rfl,a9 (fun _=>⟨_,rfl,_,_,rfl,rfl,q⟩) fun hh=>absurd (by simp[bA]) hh⟩
theorem kc:aK ["self","crossing","pair"] ["self","crossing","pair"] (au dY):=⟨rfl,rfl,rfl,by decide+kernel,rfl,by decide+kernel,by decide+kernel⟩
include T Rc in
theorem ke{f:Addr}{fd:FuncData}(F:iy K "is_brought_by" "Trails.is_brought_by" dY f fd):aZ P w K mg base (cV P w) true 1 f fd ["self","crossing","pair"] (Ai aA):=by
 refine F.gK kc Zv (fun bR A outer s H vs Q E hr h hX=>?_)
 ·obtain⟨x,dx,e,b,es,bs,f,o,p,n,m,cr,pr,i,j,k,l,rfl,_⟩:=h;rfl
 ·obtain⟨x,dx,e,b,es,bs,f1,o,p,n,m,cr,pr,i,j,k,l,rfl,TR,IV,BJ,hi,hj,hk,hl,q⟩:=h;refine⟨_,(Zh (Zs (@iE _ _ _ _ _ _ _ _ jm (Y7 (Y7 (Y_ K (pv 0)) (Zr (bT K) (pv 2) af)) (Zr (bT K) (pv 2) af)) (Y7 (Y7 (Y_ K (pv 0)) (Zr (bT K) (pv 1) af)) (Zr (bT K) (pv 1) af)) (aV _)))),?_⟩;obtain⟨ra,h1,h2,h3⟩:=TR.tb.at (show i<n+1 by omega);obtain⟨rb,g1,g2,g3⟩:=TR.te.at hk;refine⟨_,rfl,x,aA,dx,_,_,rfl,TR.ob,Rc.cl,Rc.kD,ig o p e b,_,rfl,pr,_,_,_,rfl,rfl, .of BJ,ar (j:=0) rfl,e,_,_,_,rfl,rfl, .of TR.he,ar g2,_,rfl,pr,_,_,_,rfl,rfl, .of BJ,ar (j:=1) rfl,rb,_,_,_,rfl,rfl, .of g3,ar (c7 hl),?_⟩;refine⟨_,rfl,x,aA,dx,_,_,rfl,TR.ob,Rc.cl,Rc.jv,gP o p e b,_,rfl,cr,_,_,_,rfl,rfl, .of IV,ar (j:=0) rfl,b,_,_,_,rfl,rfl, .of TR.hb,ar h2,_,rfl,cr,_,_,_,rfl,rfl, .of IV,ar (j:=1) rfl,ra,_,_,_,rfl,rfl, .of h3,ar (c7 (show j<m+1 by omega)),?_⟩;have IW:∀a c:Option Int,decide (bA a=bA c)=decide (a=c):=fun a c=>by cases a<;>cases c<;>simp[bA]
  refine⟨by cases dC f1 o p k l<;>cases Bq f1 o p i j<;>rfl,?_⟩;rw[IW];exact q
theorem bj:aK ["self","crossing","i","j","brought","found"] ["self","crossing"] (au cQ):=⟨rfl,rfl,rfl,by decide+kernel,rfl,by decide+kernel,by decide+kernel⟩
include T kO Rc in
theorem jb{f:Addr}{fd:FuncData}(F:iy K "crossings_before" "Trails.crossings_before" cQ f fd):aZ P w K mg base (cV P w) true 2 f fd ["self","crossing"] (s_ aA):=by
 refine F.gK bj Zv (fun bR A outer s H vs Q E hr h hX=>?_)
 ·obtain⟨x,dx,e,b,es,bs,f,o,p,n,m,cr,i,j,rfl,_⟩:=h;rfl
 ·obtain⟨x,dx,e,b,es,bs,f1,o,p,n,m,cr,i,j,rfl,TR,IV,hi,hj,q⟩:=h;refine⟨_,(Zl (Y3 (2) bj.nd (Zr (bT K) (pv 1) af)) (Zl (Y3 (3) bj.nd (Zr (bT K) (pv 1) af)) (Zl (Y3 (4) bj.nd (Y7 (Y7 (Y_ K (pv 0)) (pv 2)) (pv 3))) (Zl (Y3 (5) bj.nd (@bI _ _ _ _ ai)) (Zl (Zj (Zo jm (Y5 kO aQ (Y8 (Y7 (Y7 (Y_ K (pv 0)) (Za bZ (pv 2) af)) (pv 3)) (Y4 (Y_ K (pv 0))))) (pv 4) (aV _)) (Zh (@a8 _ _ _ _ (Zd K PySem.F.plainAttrs_list PySem.F.slot_list_append PySem.F.type_list_append bQ (pv 5) (Y4 (@eV _ _ _ _ _ (Y8 (Za bZ (pv 2) af) (Y4 (pv 3)))))) (ZC))) aP) (Zl (Zj (Zo jm (Y5 kO aQ (Y8 (Y7 (Y7 (Y_ K (pv 0)) (pv 2)) (Za bZ (pv 3) af)) (Y4 (Y_ K (pv 0))))) (pv 4) (aV _)) (Zh (@a8 _ _ _ _ (Zd K PySem.F.plainAttrs_list PySem.F.slot_list_append PySem.F.type_list_append bQ (pv 5) (Y4 (@eV _ _ _ _ _ (Y8 (pv 2) (Y4 (Za bZ (pv 3) af)))))) (ZC))) aP) (Zh (Zs (pv 5))))))))),?_⟩;have IW:∀a c:Option Int,decide (bA a=bA c)=decide (a=c):=fun a c=>by cases a<;>cases c<;>simp[bA]
  obtain⟨ra,h1,h2,h3⟩:=TR.tb.at (show i<n+1 by omega);obtain⟨rb,g1,g2,g3⟩:=TR.tb.at (show i+1<n+1 by omega);refine⟨fun σ H1=>σ=[some (.ref x),some (.ref cr),some (.int ((i+1:Nat):Int)),none,none,none]∧H1=H,⟨_,rfl,cr,_,_,_,rfl,rfl, .of IV,ar (j:=0) rfl,rfl,rfl⟩,?_⟩;rintro σ H ⟨rfl,rfl⟩;refine⟨fun σ H1=>σ=[some (.ref x),some (.ref cr),some (.int ((i+1:Nat):Int)),some (.int ((j+1:Nat):Int)),none,none]∧H1=H,⟨_,rfl,cr,_,_,_,rfl,rfl, .of IV,ar (j:=1) rfl,rfl,rfl⟩,?_⟩;rintro σ H ⟨rfl,rfl⟩;refine⟨fun σ H1=>σ=[some (.ref x),some (.ref cr),some (.int ((i+1:Nat):Int)),some (.int ((j+1:Nat):Int)),some (bA (Bq f1 o p (i+1) (j+1))),none]∧H1=H,⟨_,rfl,x,aA,dx,_,_,rfl,TR.ob,Rc.cl,Rc.jv,gP o p e b,_,rfl,b,_,_,_,rfl,rfl, .of TR.hb,ar g2,_,rfl,rb,_,_,_,rfl,rfl, .of g3,ar (c7 (show j+1<m+1 by omega)),rfl,rfl⟩,?_⟩;rintro σ H ⟨rfl,rfl⟩;refine⟨fun σ H1=>∃r,σ=[some (.ref x),some (.ref cr),some (.int ((i+1:Nat):Int)),some (.int ((j+1:Nat):Int)),some (bA (Bq f1 o p (i+1) (j+1))),some (.ref r)]∧ax H H1∧H r=none∧H1 r=some (.lst []),⟨aE Zu,fun r hr=>⟨r,rfl,ax.upd hr,hr,ae⟩⟩,?_⟩;rintro σ H1 ⟨r,rfl,s1,rz,FU⟩;refine⟨fun σ H2=>∃us,σ=[some (.ref x),some (.ref cr),some (.int ((i+1:Nat):Int)),some (.int ((j+1:Nat):Int)),some (bA (Bq f1 o p (i+1) (j+1))),some (.ref r)]∧ax H H2∧H2 r=some (.lst us)∧gI H2 us (if bx (Bq f1 o p i (j+1)) o=Bq f1 o p (i+1) (j+1)then[((i:Int),((j+1:Nat):Int))]else[]),?_,?_⟩
  ·have T1:=TR.keep s1;have ea:rj (bs.map V.ref) (((i+1:Nat):Int)-1)=some (.ref ra):=by
    rw[show((i+1:Nat):Int)-1=(i:Int) by omega];exact ar h2
   refine⟨_,rfl,x,aA,dx,_,_,rfl,T1.ob,Rc.cl,Rc.jv,gP o p e b,_,rfl,_,_,rfl,rfl,b,_,_,_,rfl,rfl, .of T1.hb,ea,_,rfl,ra,_,_,_,rfl,rfl, .of (s1 _ _ h3),ar (c7 (show j+1<m+1 by omega)),?_⟩;refine⟨_,rfl,x,aA,dx,_,_,rfl,T1.ob,Rc.cl,Rc.out,Iv o p e b,Bq f1 o p i (j+1),o,rfl,?_⟩;refine⟨_,rfl,by cases bx (Bq f1 o p i (j+1)) o<;>cases Bq f1 o p (i+1) (j+1)<;>rfl,_,rfl,?_⟩;rw[IW];refine a9 (fun hh=>?_) (fun hh=>?_)
   ·have hh:bx (Bq f1 o p i (j+1)) o=Bq f1 o p (i+1) (j+1):=of_decide_eq_true hh;rw[Zp hh];refine⟨_,rfl, .inl ⟨rfl,_, .of FU⟩,_,rfl,_,_,rfl,rfl,_,rfl,aE Zu,fun t ht=>?_⟩;refine⟨r,_,_,rfl,rfl,ax.upd ht _ _ FU,bf Zu,_,rfl,(s1.trans (ax.upd ht)).ft rz,ae,rfl,fun k f hf=>?_⟩;have hk:k=0:=by
     have:=(Y' hf).1;simp at this;omega
    subst hk;have hf:((i:Int),((j+1:Nat):Int))=f:=by simpa using hf
    subst hf;refine⟨t,rfl,?_⟩;rw[ak (fun z=>by subst z;rw[FU]at ht;cases ht),ae];rw[show((i+1:Nat):Int)-1=(i:Int) by omega];rfl
   ·have hh:¬bx (Bq f1 o p i (j+1)) o=Bq f1 o p (i+1) (j+1):=by simpa using hh
    rw[Zm hh];exact⟨[],rfl,s1,FU, .nil⟩
  rintro σ H2 ⟨us,rfl,s2,Z1,P2⟩;have T2:=TR.keep s2;have YG:us.length≤1:=by
   rw[P2.1];split<;>simp
  have eb:rj (cY (m+1) (Bq f1 o p (i+1))) (((j+1:Nat):Int)-1)=some (bA (Bq f1 o p (i+1) j)):=by
   rw[show((j+1:Nat):Int)-1=(j:Int) by omega];exact ar (c7 (show j<m+1 by omega))
  refine⟨fun σ H3=>∃us,σ=[some (.ref x),some (.ref cr),some (.int ((i+1:Nat):Int)),some (.int ((j+1:Nat):Int)),some (bA (Bq f1 o p (i+1) (j+1))),some (.ref r)]∧ax H H3∧H3 r=some (.lst us)∧gI H3 us (bq f1 o p i j),?_,?_⟩
  ·refine⟨_,rfl,x,aA,dx,_,_,rfl,T2.ob,Rc.cl,Rc.jv,gP o p e b,_,rfl,b,_,_,_,rfl,rfl, .of T2.hb,ar g2,_,rfl,_,_,rfl,rfl,rb,_,_,_,rfl,rfl, .of (s2 _ _ g3),eb,?_⟩;refine⟨_,rfl,x,aA,dx,_,_,rfl,T2.ob,Rc.cl,Rc.into,Eu o p e b,Bq f1 o p (i+1) j,p,rfl,?_⟩;refine⟨_,rfl,by cases bx (Bq f1 o p (i+1) j) p<;>cases Bq f1 o p (i+1) (j+1)<;>rfl,_,rfl,?_⟩;rw[IW];refine a9 (fun hh=>?_) (fun hh=>?_)
   ·have hh:bx (Bq f1 o p (i+1) j) p=Bq f1 o p (i+1) (j+1):=of_decide_eq_true hh;refine⟨_,rfl, .inl ⟨rfl,_, .of Z1⟩,_,rfl,_,rfl,_,_,rfl,rfl,aE Zu,fun t ht=>?_⟩;have s3:=ax.upd (o:= .tup [.int ((i+1:Nat):Int), .int (((j+1:Nat):Int)-1)]) ht;have UK:t≠r:=fun z=>by subst z;rw[Z1]at ht;cases ht
    refine⟨r,_,_,rfl,rfl,s3 _ _ Z1,bf Zw,_,rfl,(s2.trans s3).ft rz,ae,?_⟩;unfold bq;rw[Zp hh];refine((P2.same s3).append ⟨rfl,fun k f hf=>?_⟩).cD fun a ys ha=>?_
    ·have hk:k=0:=by
      have:=(Y' hf).1;simp at this;omega
     subst hk;have hf:(((i+1:Nat):Int),(j:Int))=f:=by simpa using hf
     subst hf;refine⟨t,rfl,?_⟩;rw[ae,show((j+1:Nat):Int)-1=(j:Int) by omega];rfl
    ·have eR:a≠r:=fun z=>by subst z;rw[s3 _ _ Z1]at ha;cases ha
     rw[ak eR];exact ha
   ·have hh:¬bx (Bq f1 o p (i+1) j) p=Bq f1 o p (i+1) (j+1):=by simpa using hh
    refine⟨us,rfl,s2,Z1,?_⟩;unfold bq;rw[Zm hh,List.append_nil];exact P2
  rintro σ H3 ⟨us,rfl,s3,xf,P3⟩;exact⟨_,rfl,q H3 r us s3 rz xf P3⟩
variable(ba:eF P w K mg base true 1 aA "is_brought_by" ["self","crossing","pair"] (Ai aA))
variable(aY:eF P w K mg base true 2 aA "crossings_before" ["self","crossing"] (s_ aA))
theorem bW:aK ["self","pair","crossing","ahead"] ["self","pair"] (au e6):=⟨rfl,rfl,rfl,by decide+kernel,rfl,by decide+kernel,by decide+kernel⟩
include T Rc ba aY in
theorem lh{f:Addr}{fd:FuncData}(F:iy K "pair_before" "Trails.pair_before" e6 f fd):aZ P w K mg base (cV P w) true 3 f fd ["self","pair"] (wU aA):=by
 refine F.gK bW Zv (fun bR A outer s H vs Q E hr h hX=>?_)
 ·obtain⟨x,dx,e,b,es,bs,f,o,p,n,m,pr,i,j,rfl,_⟩:=h;rfl
 ·obtain⟨x,dx,e,b,es,bs,f1,o,p,n,m,pr,i,j,rfl,TR,BJ,hi,hj,hB,q⟩:=h;refine⟨_,(Ze (Y3 (2) bW.nd (pv 1)) (Ze (Y3 (3) bW.nd (@eV _ _ _ _ _ (Y8 (Za bZ (Zr (bT K) (pv 2) af) af) (Y4 (Za bZ (Zr (bT K) (pv 2) af) af))))) (Ze (@sr _ _ _ _ _ _ hX.own (@cJ _ _ _ _ (@bY _ _ _ (Zg (pv 0) ba (hr.mono (ZA)) aQ (Y8 (pv 2) (Y4 (pv 3)))) (by intro _;rfl))) (Ze (Y3 (2) bW.nd (Y7 (Zg (pv 0) aY (hr.mono (ZA)) aQ (Y4 (pv 2))) af)) (Zh (Y3 (3) bW.nd (@eV _ _ _ _ _ (Y8 (Za bZ (Zr (bT K) (pv 2) af) af) (Y4 (Za bZ (Zr (bT K) (pv 2) af) af)))))))) (Zh (Zs (pv 3)))))),?_⟩;obtain⟨i,rfl⟩:∃i',i=i'+1:=by
   cases i with
   |zero=>exact absurd (iG f1 o p j) hB
   |succ i=>exact⟨i,rfl⟩
  obtain⟨j,rfl⟩:∃j',j=j'+1:=by
   cases j with
   |zero=>exact absurd (by unfold Bq;rfl) hB
   |succ j=>exact⟨j,rfl⟩
  refine⟨_,rfl,_,rfl,pr,_,_,_,rfl,rfl, .of BJ,ar (j:=0) rfl,_,_,rfl,rfl,_,rfl,pr,_,_,_,rfl,rfl, .of BJ,ar (j:=1) rfl,_,_,rfl,rfl,aE Zu,fun t ht=>?_⟩;refine⟨fun mm σ H1=>∃(cr ah:Addr)(i2 j2:Nat),mm=i2+j2∧σ=[some (.ref x),some (.ref pr),some (.ref cr),some (.ref ah)]∧ax H H1∧H1 cr=some (.tup [.int ((i2+1:Nat):Int), .int ((j2+1:Nat):Int)])∧H1 ah=some (.tup [.int i2, .int j2])∧i2<n∧j2<m∧Bq f1 o p (i2+1) (j2+1)≠none∧cI f1 o p (i2+1) (j2+1)=cI f1 o p (i+1) (j+1),⟨i+j,pr,t,i,j,rfl,rfl,ax.upd ht,ax.upd ht _ _ BJ,?_,Zz,Zz,hB,rfl⟩,?_⟩
  ·rw[ae,show((i+1:Nat):Int)-1=(i:Int) by omega,show((j+1:Nat):Int)-1=(j:Int) by omega]
  rintro mm σ H1 ⟨cr,ah,i2,j2,rfl,rfl,s1,IV,UL,FO,Se,L8,UM⟩;have T1:=TR.keep s1;refine⟨_,rfl,x,dx,_,rfl,T1.ob,IH o p e b,_,rfl,_,rfl,x,dx,e,b,es,bs,f1,o,p,n,m,cr,ah,i2+1,j2+1,i2,j2,rfl,T1,IV,UL,Zz,Zz,FO,Se,?_⟩;refine⟨_,rfl,?_⟩;by_cases hE:dC f1 o p i2 j2=Bq f1 o p (i2+1) (j2+1)
  ·rw[decide_eq_true hE];refine fN ?_;refine⟨_,rfl,q H1 ah s1 ?_⟩;have:cI f1 o p (i2+1) (j2+1)=(i2,j2):=by unfold cI;rw[Zp hE]
   rw[←UM,this];exact UL
  ·rw[decide_eq_false hE];refine jP ?_;refine⟨_,fun bD H' z=>z,?_⟩;obtain⟨i3,j3,c0,c1,c2,c3,c4,c5⟩:=yL L8 hE;refine⟨_,rfl,x,dx,_,rfl,T1.ob,Bx o p e b,_,rfl,x,dx,e,b,es,bs,f1,o,p,n,m,cr,i2,j2,rfl,T1,IV,FO,Se,fun H2 r us s2 rz Z1 P2=>?_⟩;obtain⟨t2,k1,k2⟩:=P2.2 0 _ c0;refine⟨r,_,_,_,rfl,rfl, .of Z1,ar (j:=0) k1,?_⟩;refine⟨_,rfl,t2,_,_,_,rfl,rfl, .of k2,ar (j:=0) rfl,_,_,rfl,rfl,_,rfl,t2,_,_,_,rfl,rfl, .of k2,ar (j:=1) rfl,_,_,rfl,rfl,aE Zu,fun t3 Lo=>?_⟩;refine⟨i3+j3,Zz,t2,t3,i3,j3,rfl,rfl,s1.trans (s2.trans (ax.upd Lo)),ax.upd Lo _ _ k2,?_,Zz,Zz,c4,by rw[c5,UM]⟩;rw[ae];show some (HO.tup [.int (((i3+1:Nat):Int)-1), .int (((j3+1:Nat):Int)-1)])=_;rw[show((i3+1:Nat):Int)-1=(i3:Int) by omega,show((j3+1:Nat):Int)-1=(j3:Int) by omega]
variable(cf:eF P w K mg base true 1 aA "goes_on" ["self","pair"] (wR aA))
variable(dh:eF P w K mg base true 3 aA "pair_before" ["self","pair"] (wU aA))
theorem kf:aK ["self","pair","way"] ["self","pair"] (au iA):=⟨rfl,rfl,rfl,by decide+kernel,rfl,by decide+kernel,by decide+kernel⟩
include T Rc cf dh in
theorem qG{f:Addr}{fd:FuncData}(F:iy K "way_to" "Trails.way_to" iA f fd):aZ P w K mg base (cV P w) true 4 f fd ["self","pair"] (Aj aA):=by
 refine F.gK kf Zv (fun bR A outer s H vs Q E hr h hX=>?_)
 ·obtain⟨x,dx,e,b,es,bs,f,o,p,n,m,pr,i,j,rfl,_⟩:=h;rfl
 ·obtain⟨x,dx,e,b,es,bs,f1,o,p,n,m,pr,i,j,rfl,TR,BJ,hi,hj,hn,q⟩:=h;refine⟨_,(Ze (Y3 (2) kf.nd (@bI _ _ _ _ (Y4 (pv 1)))) (Ze (@sr _ _ _ _ _ _ hX.own (@bY _ _ _ (Zg (pv 0) cf (hr.mono (ZA)) aQ (Y4 (Y7 (pv 2) (@rf _ _ _ _ _ _ lB af)))) (by intro _;rfl)) (Zh (@a8 _ _ _ _ (Zd K PySem.F.plainAttrs_list PySem.F.slot_list_append PySem.F.type_list_append bQ (pv 2) (Y4 (Zg (pv 0) dh (hr.mono (ZA)) aQ (Y4 (Y7 (pv 2) (@rf _ _ _ _ _ _ lB af)))))) (ZC)))) (Ze (@a8 _ _ _ _ (@GL _ K _ _ _ _ _ _ _ _ PySem.F.plainAttrs_list PySem.F.slot_list_reverse PySem.F.type_list_reverse zK (pv 2) (ZC) (ZC) (ZC)) (ZC)) (Zh (Zs (pv 2)))))),?_⟩;refine⟨_,rfl,aE Zu,fun w hw=>?_⟩;refine⟨fun mm σ H1=>∃(us:List V)(A:List (Nat×Nat))(i2 j2:Nat),mm=i2∧σ=[some (.ref x),some (.ref pr),some (.ref w)]∧ax H H1∧H1 w=some (.lst us)∧gI H1 us ((A++[(i2,j2)]).map aR)∧i2<n∧j2<m∧A.length+i2≤i∧eG f1 o p i i j=eG f1 o p i2 i2 j2++A.reverse,⟨i,_,[],i,j,rfl,rfl,ax.upd hw,ae,⟨rfl,fun k g hg=>?_⟩,hi,hj,ZD,ZD⟩,?_⟩
  ·have hk:k=0:=by
    have:=(Y' hg).1;simp at this;omega
   subst hk;have hg:aR (i,j)=g:=by simpa using hg
   subst hg;exact⟨pr,rfl,ax.upd hw _ _ BJ⟩
  rintro i2 σ H1 ⟨us,A,_,j2,rfl,rfl,s1,rQ,P1,FO,Se,hA,Hw⟩;have T1:=TR.keep s1;obtain⟨t,xU,uj⟩:=P1.last Zu;rw[List.map_append,List.map_singleton,nk]at uj;have hlen:us.length≤1001:=by have:=P1.1;simp at this;omega
  refine⟨_,rfl,x,dx,_,rfl,T1.ob,E3 o p e b,_,rfl,_,rfl,w,_,_,_,rfl,rfl, .of rQ,xU,x,dx,e,b,es,bs,f1,o,p,n,m,t,i2,j2,rfl,T1,uj,Zz,Zz,?_⟩;refine⟨_,rfl,?_⟩;refine a9 (fun hh=>?_) (fun hh=>?_)
  ·obtain⟨c1,c2,c3⟩:=j9 hh;have hl:=(kE f1 o p i2 j2 c1 c2).resolve_right c3;refine⟨_,fun bD H' z=>z,?_⟩;refine⟨_,rfl, .inl ⟨rfl,_, .of rQ⟩,_,rfl,x,dx,_,rfl,T1.ob,K7 o p e b,_,rfl,_,rfl,w,_,_,_,rfl,rfl, .of rQ,xU,x,dx,e,b,es,bs,f1,o,p,n,m,t,i2,j2,rfl,T1,uj,Zz,Zz,c3,fun H2 r s2 hr=>?_⟩;have YH:r≠w:=fun z=>by subst z;rw[s2 _ _ rQ]at hr;cases hr
   refine⟨w,_,_,rfl,rfl,s2 _ _ rQ,bf Zw,(cI f1 o p i2 j2).1,hl.1,us++[.ref r],A++[(i2,j2)],_,(cI f1 o p i2 j2).2,rfl,rfl,(s1.trans s2).ft hw,ae,?_,Zz,Zz,by simp;omega,?_⟩
   ·rw[List.map_append];refine((P1.same s2).append ⟨rfl,fun k g hg=>?_⟩).cD fun a ys ha=>?_
    ·have hk:k=0:=by
      have:=(Y' hg).1;simp at this;omega
     subst hk;have hg:aR ((cI f1 o p i2 j2).1,(cI f1 o p i2 j2).2)=g:=by simpa using hg
     subst hg;exact⟨r,rfl,hr⟩
    ·have eR:a≠w:=fun z=>by subst z;rw[s2 _ _ rQ]at ha;cases ha
     rw[ak eR];exact ha
   ·rw[Hw,vF hh];simp
  ·have hh:¬gN (Bq f1 o p i2 j2)=true:=hh;refine⟨_,rfl, .inl ⟨rfl,_, .of rQ⟩,w,us,rfl,rfl,rQ,?_⟩;refine⟨_,rfl,q _ w us.reverse (s1.ft hw) hw ae ?_⟩;have e:eG f1 o p i i j=(A++[(i2,j2)]).reverse:=by
    rw[Hw,gQ hh];simp
   rw[e,List.map_reverse];refine⟨by rw[List.length_reverse,List.length_reverse,P1.1],fun k g hg=>?_⟩;have hk:=(Y' hg).1;rw[List.length_reverse]at hk;have hl:=P1.1;rw[List.getElem?_reverse hk]at hg;obtain⟨t3,k1,k2⟩:=P1.2 _ _ hg;refine⟨t3,by rw[List.getElem?_reverse Zw,hl];exact k1,?_⟩;have eR:t3≠w:=fun z=>by subst z;rw[rQ]at k2;cases k2
   rw[ak eR];exact k2
variable(Fc:II K ay)
theorem mI:aK ["self","worth","way","row","pairs"] ["self","worth","way","row","pairs"] (au fR):=⟨rfl,rfl,rfl,by decide+kernel,rfl,by decide+kernel,by decide+kernel⟩
include T Fc in
theorem mJ{f:Addr}{fd:FuncData}(F:iy K "__init__" "Finding.__init__" fR f fd):aZ P w K mg base (cV P w) true 1 f fd ["self","worth","way","row","pairs"] (tf ay):=by
 refine F.gK mI Zv (fun bR A outer s H vs Q E hr h hX=>?_)
 ·obtain⟨x,dx,a,r,p,w,rfl,_⟩:=h;rfl
 ·obtain⟨x,dx,a,r,p,w,rfl,hx,q⟩:=h;refine⟨_,(Ze (Zq K (pv 0) (pv 1)) (Ze (Zq K (pv 0) (pv 2)) (Ze (Zq K (pv 0) (pv 3)) (Zh (Zq K (pv 0) (pv 4)))))),?_⟩;have a1:=aW "worth" (.int w) [];have a2:=aW "way" (.ref a) (bo "worth" (.int w) []);have a3:=aW "row" (.ref r) (bo "way" (.ref a) (bo "worth" (.int w) []));simp only[List.length_nil]at a1;refine⟨_,rfl,_,rfl,x,ay,dx,_,rfl,hx,Fc.cl,Fc.worth,ZA,?_⟩;refine⟨_,rfl,_,rfl,x,ay,dx,_,rfl,ae,Fc.cl,Fc.way,Zz,?_⟩;refine⟨_,rfl,_,rfl,x,ay,dx,_,rfl,ae,Fc.cl,Fc.row,Zz,?_⟩;refine⟨_,rfl,_,rfl,x,ay,dx,_,rfl,ae,Fc.cl,Fc.pairs,Zz,?_⟩;rw[f6,f6,f6,K8];exact q
theorem yV:aK ["finding"] ["finding"] (au nE):=⟨rfl,rfl,rfl,by decide+kernel,rfl,by decide+kernel,by decide+kernel⟩
include T Fc in
theorem yW{f:Addr}{fd:FuncData}(F:jn K "order_of" "order_of" nE f fd):aZ P w K mg base (cV P w) true 1 f fd ["finding"] (tm ay):=by
 refine F.gK yV Zv (fun bR A outer s H vs Q E hr h hX=>?_)
 ·obtain⟨x,dx,a,r,p,w,us,ps,rfl,_⟩:=h;rfl
 ·obtain⟨x,dx,a,r,p,w,us,ps,rfl,hx,hp,PS,eR,q⟩:=h;refine⟨_,(Zh (Zs (@eV _ _ _ _ _ (Y8 (@rf _ _ _ _ _ _ lB (Y_ K (pv 0))) (Y4 (Y7 (Y_ K (pv 0)) af)))))),?_⟩;obtain⟨t,h1,h2⟩:=PS.first eR;refine⟨_,rfl,x,ay,dx,_,_,rfl,hx,Fc.cl,Fc.worth,gc w a r p,_,rfl,_,rfl,x,ay,dx,_,_,rfl,hx,Fc.cl,Fc.pairs,ij w a r p,p,_,_,_,rfl,rfl, .of hp,h1,aE Zu,fun k hk=>?_⟩;exact q _ k t (ax.upd hk) ae (ax.upd hk _ _ h2)
variable(fL:eF P w K mg base true 4 aA "way_to" ["self","pair"] (Aj aA))
variable(kP:mQ P w K mg base true 1 "Finding" ay ["self","worth","way","row","pairs"] [] (tf ay))
theorem fM:aK ["trails","worth","pairs","ends","way","row"] ["trails","worth","pairs"] (au e7):=⟨rfl,rfl,rfl,by decide+kernel,rfl,by decide+kernel,by decide+kernel⟩
include T Rc fL kP in
theorem rR{f:Addr}{fd:FuncData}(F:jn K "make_finding" "make_finding" e7 f fd):aZ P w K mg base (cV P w) true 6 f fd ["trails","worth","pairs"] (Al aA ay):=by
 refine F.gK fM Zv (fun bR A outer s H vs Q E hr h hX=>?_)
 ·obtain⟨x,dx,e,b,es,bs,f,o,p,n,m,w,pr,us,ps,q0,rfl,_⟩:=h;rfl
 ·obtain⟨x,dx,e,b,es,bs,f1,o,p,n,m,w,pr,us,ps,q0,rfl,TR,BJ,PS,n6,h0,hn,Di,q⟩:=h;refine⟨_,(Zl (@me _ _ _ _ _ _ _ _ _ _ _ _ _ _ _ (3) _ _ (by exact rfl) fM.nd Zy (by exact rfl) (show bB ["trails","worth","pairs","ends","way","row"] (au e7) _ ["pair"] [0,1] ["trails","worth"]from⟨rfl,by decide+kernel,by decide+kernel,by decide+kernel,rfl,rfl,by decide+kernel,by decide+kernel,by decide+kernel⟩) (@bg _ K _ _ _ (pv 2) (ZC)) (fun _ _ _ _ _=>(Y6 (0) (show(["pair","trails","worth"]:List Str).Nodup by decide+kernel))) (fun _ _ _ _ _=>(@we _ _ _ (Zo jm (Y7 (Y7 (Y_ K (pv 1)) (Zr (bT K) (pv 0) af)) (Zr (bT K) (pv 0) af)) (pv 2) (aV _)))) (fun _ _ _ _ _=>(pv 0)) (ZC) (by intro _;rfl)) (Zl (Y3 (4) fM.nd (Zg (pv 0) fL (hr.mono (ZA)) aQ (Y4 (Y7 (pv 3) af)))) (Zl (@me _ _ _ _ _ _ _ _ _ _ _ _ _ _ _ (5) _ _ (by exact rfl) fM.nd Zy (by exact rfl) (show bB ["trails","worth","pairs","ends","way","row"] (au e7) _ ["i","j"] [0] ["trails"]from⟨rfl,by decide+kernel,by decide+kernel,by decide+kernel,rfl,rfl,by decide+kernel,by decide+kernel,by decide+kernel⟩) (@bg _ K _ _ _ (pv 4) (ZC)) (fun _ _ _ _ _=>(@f_ _ K _ _ _ (2) _ (by exact rfl) (@bb _ _ _ _ _ (Y6 (0) (show(["i","j","trails"]:List Str).Nodup by decide+kernel)) (@bb _ _ _ _ _ (Y6 (1) (show(["i","j","trails"]:List Str).Nodup by decide+kernel)) f7 (ZC)) (ZC)) (ZC) (ZC) (ZC))) (fun _ _ _ _ _=>jo) (fun _ _ _ _ _=>(Y7 (Y7 (Y_ K (pv 2)) (pv 0)) (pv 1))) (ZC) (by intro _;rfl)) (Zh (Zs (@sf _ _ _ _ _ _ _ _ _ _ _ _ _ _ kP (hr.mono (ZA)) hX.pass (Y8 (pv 1) (Y8 (pv 4) (Y8 (pv 5) (Y4 (pv 2))))) (ZC) (ZA) (ZC) (ZC))))))),?_⟩;have Hx:us.length=ps.length:=by have:=PS.1;simpa using this
  refine⟨fun σ H1=>∃D vs,σ=[some (.ref x),some (.int w),some (.ref pr),some (.ref D),none,none]∧ax H H1∧H1 D=some (.lst vs)∧gI H1 vs ((ps.filter fun q=>decide (dC f1 o p q.1 q.2=some w)).map aR),?_,?_⟩
  ·refine⟨_,rfl,pr,rfl,⟨_, .of BJ⟩,fun D hD=>?_⟩;refine iU (xs:=us) (fun k ys bD H'=>(∃u,bD=[u,some (.ref x),some (.int w)])∧gI H ys (((ps.take k).filter fun q=>decide (dC f1 o p q.1 q.2=some w)).map aR)∧H' D=some (.lst ys)∧ax H H'∧ys.length≤k) ⟨⟨_,rfl⟩, .nil,ae,ax.upd hD,ZD⟩ ?_ ?_ ?_
   ·rintro k ys bD H' _ ⟨_,_,_,s1,_⟩;exact .of (s1 _ _ BJ)
   ·rintro k v ys bD H' hv ⟨⟨u,rfl⟩,P1,rP,s1,jZ⟩;have hk:k<ps.length:=by rw[←Hx];exact(Y' hv).1
    have ek:ps[k]?=some ps[k]:=by simp[hk]
    have hm:=n6 ps[k] (List.getElem_mem hk);generalize ps[k]=g at ek hm;obtain⟨t,k1,k2⟩:=PS.2 k (aR g) (by rw[List.getElem?_map,ek];rfl);rw[hv]at k1;cases k1;have T1:=TR.keep s1;have kt:=s1 _ _ k2;obtain⟨rb,g1,g2,g3⟩:=T1.te.at hm.1;have et:ps.take (k+1)=ps.take k++[g]:=by rw[List.take_succ,ek];rfl
    refine⟨_,rfl,x,aA,dx,_,_,rfl,T1.ob,Rc.cl,Rc.kD,ig o p e b,_,rfl,t,_,_,_,rfl,rfl, .of kt,ar (j:=0) rfl,e,_,_,_,rfl,rfl, .of T1.he,ar g2,_,rfl,t,_,_,_,rfl,rfl, .of kt,ar (j:=1) rfl,rb,_,_,_,rfl,rfl, .of g3,ar (c7 hm.2),?_⟩;have IW:decide (bA (dC f1 o p g.1 g.2)=V.int w)=decide (dC f1 o p g.1 g.2=some w):=by cases dC f1 o p g.1 g.2<;>simp[bA]
    refine⟨_,rfl,by cases dC f1 o p g.1 g.2<;>rfl,_,rfl,?_⟩;rw[IW];refine a9 (fun hh=>?_) (fun hh=>?_)
    ·refine⟨_,rfl,rP,bf Zw,⟨_,rfl⟩,?_,ae,s1.ft hD,by simp;omega⟩;rw[et,List.filter_append,List.map_append];refine P1.append ?_;rw[show[g].filter (fun q=>decide (dC f1 o p q.1 q.2=some w))=[g] by rw[List.filter_cons,Zp hh];rfl];exact⟨rfl,fun k3 g3 PR=>by
      have Xf:k3=0:=by
       have:=(Y' PR).1;simp at this;omega
      subst Xf;have PR:aR g=g3:=by simpa using PR
      subst PR;exact⟨t,rfl,k2⟩⟩
    ·have hh:decide (dC f1 o p g.1 g.2=some w)=false:=by simpa using hh
     refine⟨⟨_,rfl⟩,?_,rP,s1,Zz⟩;rw[et,List.filter_append,show[g].filter (fun q=>decide (dC f1 o p q.1 q.2=some w))=[] by rw[List.filter_cons,hh];rfl,List.append_nil];exact P1
   ·rintro ys bD H' ⟨_,P1,rP,s1,_⟩;rw[Hx,List.take_length]at P1;exact⟨D,ys,rfl,s1,rP,P1.same s1⟩
  rintro σ H1 ⟨D,vs,rfl,s1,rP,P1⟩;obtain⟨t0,k1,k2⟩:=P1.2 0 (aR q0) (by rw[List.getElem?_map,h0];rfl);have Hy:q0.1<n∧q0.2<m:=n6 q0 (List.mem_filter.mp (Zk h0)).1;refine⟨fun σ H2=>∃wy ik,σ=[some (.ref x),some (.int w),some (.ref pr),some (.ref D),some (.ref wy),none]∧ax H1 H2∧H1 wy=none∧H2 wy=some (.lst ik)∧gI H2 ik ((eG f1 o p q0.1 q0.1 q0.2).map aR),?_,?_⟩
  ·have T1:=TR.keep s1;exact⟨_,rfl,x,dx,_,rfl,T1.ob,N0 o p e b,_,rfl,D,_,_,_,rfl,rfl, .of rP,ar (j:=0) k1,x,dx,e,b,es,bs,f1,o,p,n,m,t0,q0.1,q0.2,rfl,T1,k2,Hy.1,Hy.2,hn,fun H2 wy ik s2 h2 h3 P2=>⟨wy,ik,rfl,s2,h2,h3,P2⟩⟩
  rintro σ H2 ⟨wy,ik,rfl,s2,Sg,Dr,P2⟩;have AA:=P2.1;rw[List.length_map]at AA;have M_:(eG f1 o p q0.1 q0.1 q0.2).length≤1001:=by
   have:=yM (f:=f1) (o:=o) (p:=p) q0.1 q0.1 q0.2;omega
  have Om:=By (f:=f1) (o:=o) (p:=p) q0.1 q0.1 q0.2 Hy.1 Hy.2;generalize eG f1 o p q0.1 q0.1 q0.2=W at P2 AA M_ Om q;refine⟨fun σ H3=>∃r,σ=[some (.ref x),some (.int w),some (.ref pr),some (.ref D),some (.ref wy),some (.ref r)]∧ax H2 H3∧H2 r=none∧H3 r=some (.lst (W.map fun q=>bA (dC f1 o p q.1 q.2))),?_,?_⟩
  ·refine⟨_,rfl,wy,rfl,⟨_, .of Dr⟩,fun D2 lS=>?_⟩;refine iU (xs:=ik) (fun k ys bD H'=>(∃u v,bD=[u,v,some (.ref x)])∧ys=(W.take k).map (fun q=>bA (dC f1 o p q.1 q.2))∧H' D2=some (.lst ys)∧ax H2 H') ⟨⟨_,_,rfl⟩,rfl,ae,ax.upd lS⟩ ?_ ?_ ?_
   ·rintro k ys bD H' _ ⟨_,_,_,s3⟩;exact .of (s3 _ _ Dr)
   ·rintro k v ys bD H' hv ⟨⟨u,v2,rfl⟩,rfl,CP,s3⟩;have hk:k<W.length:=by rw[←AA];exact(Y' hv).1
    have ek:W[k]?=some W[k]:=by simp[hk]
    have hm:=Om W[k] (List.getElem_mem hk);generalize W[k]=g at ek hm;obtain⟨t,k1,k2⟩:=P2.2 k (aR g) (by rw[List.getElem?_map,ek];rfl);rw[hv]at k1;cases k1;have T3:=TR.keep (s1.trans (s2.trans s3));have kt:=s3 _ _ k2;obtain⟨rb,g1,g2,g3⟩:=T3.te.at hm.1;refine⟨t,_,rfl, .of kt,rfl,_,_,rfl,_,_,rfl,rfl,?_⟩;refine wg ?_;refine⟨_,rfl,x,aA,dx,_,_,rfl,T3.ob,Rc.cl,Rc.kD,ig o p e b,_,rfl,e,_,_,_,rfl,rfl, .of T3.he,ar g2,_,rfl,rb,_,_,_,rfl,rfl, .of g3,ar (c7 hm.2),?_⟩;refine⟨CP,bf (by rw[List.length_map,List.length_take];omega),⟨_,_,rfl⟩,?_,ae,s3.ft lS⟩;rw[List.take_succ,ek];simp
   ·rintro ys bD H' ⟨_,rfl,CP,s3⟩;rw[AA,List.take_length]at CP;exact⟨D2,rfl,s3,lS,CP⟩
  rintro σ H3 ⟨r,rfl,s3,rz,xf⟩;refine⟨_,rfl,_,rfl,_,rfl,_,rfl,fun y dy hy Lp eR=>?_⟩;have s4:ax H3 (upd (upd H3 dy (.own y)) y (.ins ay dy [])):=(ax.upd Lp).ft hy;refine⟨y,dy,wy,r,pr,w,rfl,ae,?_⟩;refine⟨rfl,?_⟩;rw[f6];have s5:ax H3 (upd (upd H3 dy (.own y)) y (.ins ay dy (mU w wy r pr))):=(ax.upd Lp).ft hy;have sH:=s1.trans (s2.trans s3);exact q _ y dy wy r ik (sH.trans s5) (sH.free hy) (sH.free Lp) (s1.free Sg) ((s1.trans s2).free rz) ae (by rw[ak eR];exact ae) (s5 _ _ (s3 _ _ Dr)) (P2.same (s3.trans s5)) (s5 _ _ xf)
variable(Gc:N1 K aI)
theorem nL:aK ["self"] ["self"] (au gj):=⟨rfl,rfl,rfl,by decide+kernel,rfl,by decide+kernel,by decide+kernel⟩
include T Gc in
theorem nM{f:Addr}{fd:FuncData}(F:iy K "__init__" "Groups.__init__" gj f fd):aZ P w K mg base (cV P w) true 1 f fd ["self"] (tq aI):=by
 refine F.gK nL Zv (fun bR A outer s H vs Q E hr h hX=>?_)
 ·obtain⟨x,dx,rfl,_⟩:=h;rfl
 ·obtain⟨x,dx,rfl,hx,q⟩:=h;refine⟨_,(Ze (Zq K (pv 0) j5) (Zh (Zq K (pv 0) j5))),?_⟩;have a1:=aW "leads" (.ref 0) [];simp only[List.length_nil]at a1;refine fun dl PU=>?_
  have n1:x≠dl:=aD hx PU;refine⟨_,rfl,x,aI,dx,_,rfl,by rw[ak n1];exact hx,Gc.cl,Gc.oS,ZA,?_⟩;refine fun dm IX=>?_
  have n2:x≠dm:=fun z=>by rw[z,ae]at IX;cases IX
  have Hz:upd H dl (.dT []) dm=none:=by rw[ak (Ne.symm n2)]at IX;exact IX
  have n3:dm≠dl:=fun z=>by rw[z,ae]at Hz;cases Hz
  have Oo:H dm=none:=by rw[ak n3]at Hz;exact Hz
  refine⟨_,rfl,x,aI,dx,_,rfl,by rw[ak n2,ae],Gc.cl,Gc.members,by have:=aW "leads" (.ref dl) [];simp at this;omega,?_⟩;rw[N2];refine q _ (fun a=>a=dl∨a=dm) ?_ ?_ ?_
  ·exact fun b u hb e=>by
    rw[ak hb,ak (aD e Oo),ak hb,ak (aD e PU)];exact e
  ·rintro a (rfl|rfl)
   ·exact PU
   ·exact Oo
  ·refine⟨dx,dl,dm,[],[],fun _=>none,fun _=>none,ae,fun z=>z.elim n1 n2,⟨?_,?_, .inl rfl, .inr rfl,Ne.symm n3,fun p=>rfl,fun p=>rfl,fun p q a e=>(by cases e),fun kv h=>(by cases h), .nil,fun l ms e=>(by cases e),fun p l e=>(by cases e),fun l ms e=>(by cases e)⟩,fun a b=>⟨False.elim,fun⟨l,e,_⟩=>(by cases e)⟩,Nat.le_refl _,Nat.le_refl _⟩
   ·rw[ak (Ne.symm n1),ak (Ne.symm n3),ak (Ne.symm n1),ae]
   ·rw[ak (Ne.symm n2),ae]
theorem uA:aK ["self","pair"] ["self","pair"] (au iI):=⟨rfl,rfl,rfl,by decide+kernel,rfl,by decide+kernel,by decide+kernel⟩
include T Gc in
theorem uB{f:Addr}{fd:FuncData}(F:iy K "has" "Groups.has" iI f fd):aZ P w K mg base (cV P w) true 1 f fd ["self","pair"] (Am aI):=by
 refine F.gK uA Zv (fun bR A outer s H vs Q E hr h hX=>?_)
 ·obtain⟨x,t,p,S,E1,B,rfl,_⟩:=h;rfl
 ·obtain⟨x,t,p,S,E1,B,rfl,G,ht,q⟩:=h;have hu:=hr.units;have hu:(A.deeper (PyProof.Rows.envOfC "Groups.has" (au iI) s.heap.objs.size f bR)).units+1<cLine:=Zz;refine⟨_,(Zh (Zs (@ZJ _ _ _ _ _ _ (@qf _ _ _ _ _ hu (pv 1) (Y_ K (pv 0))) (by first|exact bh _ (ZA) (ZA)|rfl)))),?_⟩;obtain⟨dg,dl,dm,kl,km,ld,mm,hg,Fy,D,hE,PV,L8⟩:=G;refine⟨_,rfl,_,rfl,x,aI,dg,_,_,rfl,hg,Gc.cl,Gc.oS,jx dl dm,dl,_,rfl, .t (k:=a_ p) D.hl ht,q _ ?_⟩;rw[hE];have:=D.lv p;cases e:ld p with
  |none=>
   rw[e]at this;have this:bu kl (a_ p)=none:=this;rw[this];simp
  |some l=>
   rw[e]at this;obtain⟨t2,h1,_⟩:=this;rw[h1];simp
theorem o7:aK ["self","pair"] ["self","pair"] (au fu):=⟨rfl,rfl,rfl,by decide+kernel,rfl,by decide+kernel,by decide+kernel⟩
include T Gc in
theorem o8{f:Addr}{fd:FuncData}(F:iy K "take_in" "Groups.take_in" fu f fd):aZ P w K mg base (cV P w) true 1 f fd ["self","pair"] (wV aI):=by
 refine F.gK o7 Zv (fun bR A outer s H vs Q E hr h hX=>?_)
 ·obtain⟨x,t,p,S,E1,B,rfl,_⟩:=h;rfl
 ·obtain⟨x,t,p,S,E1,B,rfl,G,ht,hB,q⟩:=h;have hu:=hr.units;have hu:(A.deeper (PyProof.Rows.envOfC "Groups.take_in" (au fu) s.heap.objs.size f bR)).units+1<cLine:=Zz;refine⟨_,(Zh (Zj (Zf (@vk _ _ _ _ _ hu (pv 1) (Y_ K (pv 0)))) (Ze (@kr _ _ _ _ _ _ _ _ _ hu (Y_ K (pv 0)) (pv 1) (pv 1) (by exact rfl)) (Zh (@kr _ _ _ _ _ _ _ _ _ hu (Y_ K (pv 0)) (pv 1) (@bI _ _ _ _ (Y4 (pv 1))) (by exact rfl)))) aP)),?_⟩;obtain⟨dg,dl,dm,kl,km,ld,mm,hg,Fy,D,hE,PV,L8⟩:=id G;refine⟨_,rfl,_,rfl,x,aI,dg,_,_,rfl,hg,Gc.cl,Gc.oS,jx dl dm,dl,_,rfl, .t (k:=a_ p) D.hl ht,_,rfl,?_⟩;have lv:=D.lv p;cases e:ld p with
  |some l=>
   rw[e]at lv;obtain⟨t2,h1,_⟩:=lv;rw[h1];refine fN ?_;refine q H S (.same (.refl H)) (G.iff (fun a b=>?_) (Zz));unfold IJ;refine⟨fun z=>z.elim id ?_, .inl⟩;rintro⟨rfl,rfl⟩;rw[hE];exact⟨l,e,e⟩
  |none=>
   rw[e]at lv;have lv:bu kl (a_ p)=none:=lv;rw[lv];refine jP ?_;have nx:x≠dl:=fun z=>Fy (z▸D.sl)
   have PX:x≠dm:=fun z=>Fy (z▸D.sm)
   have Sh:t≠dl:=fun z=>by rw[z,D.hl]at ht;cases ht
   have YI:t≠dm:=fun z=>by rw[z,D.hm]at ht;cases ht
   refine⟨_,rfl,_,rfl,x,aI,dg,_,_,rfl,hg,Gc.cl,Gc.oS,jx dl dm,_,rfl,dl,_,rfl, .t (k:=a_ p) D.hl ht (bf Zw),?_⟩;refine⟨_,rfl,aE Zu,fun a ha=>?_⟩;have na:a≠dl:=fun z=>by rw[z,ae]at ha;cases ha
   have Dq:H a=none:=by rw[ak na]at ha;exact ha
   have Of:x≠a:=aD hg Dq;have UN:dm≠a:=aD D.hm Dq;have Xg:t≠a:=aD ht Dq;refine⟨_,rfl,x,aI,dg,_,_,rfl,by rw[ak Of,ak nx];exact hg,Gc.cl,Gc.members,iV dl dm,_,rfl,dm,_,rfl, .t (k:=a_ p) (by rw[ak UN,ak (Ne.symm D.ne)];exact D.hm) (by rw[ak Xg,ak Sh];exact ht) (bf Zw),?_⟩;refine q _ (fun y=>S y∨y=a) ⟨fun y hy=>hy.imp id (fun z=>by rw[z];exact Dq),fun b o hb eb=>?_⟩ ?_
   ·rw[ak (fun z:b=dm=>hb (by rw[z];exact D.sm)),ak (aD eb Dq),ak (fun z:b=dl=>hb (by rw[z];exact D.sl))];exact eb
   refine⟨dg,dl,dm,_,_,_,_,by rw[ak PX,ak Of,ak nx];exact hg,fun z=>z.elim Fy Of,D.take (t:=t) (a:=a) e ht Dq ?_ ae ?_ ?_,fun a1 b1=>?_,?_,?_⟩
   ·rw[ak D.ne,ak (Ne.symm na),ae]
   ·rw[ak (Ne.symm UN),ae]
   ·intro b o h1 h2 eb;rw[ak h2,ak (aD eb Dq),ak h1];exact eb
   ·unfold IJ;rw[hE];constructor
    ·rintro(⟨l,h1,h2⟩|⟨z1,z2⟩)
     ·exact⟨l,by rw[Zm (fun z=>by rw[z,e]at h1;cases h1)];exact h1,by rw[Zm (fun z=>by rw[z,e]at h2;cases h2)];exact h2⟩
     ·exact⟨p,by rw[Zp z1],by rw[Zp z2]⟩
    ·rintro⟨l,h1,h2⟩;by_cases z1:a1=p
     ·by_cases z2:b1=p
      ·exact .inr ⟨z1,z2⟩
      ·rw[Zp z1]at h1;rw[Zm z2]at h2;cases h1;obtain⟨ms,Dk⟩:=D.ml _ _ h2;have:=D.self _ _ Dk;rw[e]at this;cases this
     ·rw[Zm z1]at h1;by_cases z2:b1=p
      ·rw[Zp z2]at h2;cases h2;obtain⟨ms,Dk⟩:=D.ml _ _ h1;have:=D.self _ _ Dk;rw[e]at this;cases this
      ·rw[Zm z2]at h2;exact .inl ⟨l,h1,h2⟩
   ·exact Nat.le_trans (eX _ _ _) (Zz)
   ·exact Nat.le_trans (eX _ _ _) (Zz)
theorem cF:aK ["self","pair","other","lead","gone","moved","member"] ["self","pair","other"] (au e8):=⟨rfl,rfl,rfl,by decide+kernel,rfl,by decide+kernel,by decide+kernel⟩
include T Gc in
theorem rS{f:Addr}{fd:FuncData}(F:iy K "unite" "Groups.unite" e8 f fd):aZ P w K mg base (cV P w) true 1 f fd ["self","pair","other"] (tw aI):=by
 refine F.gK cF Zv (fun bR A outer s H vs Q E hr h hX=>?_)
 ·obtain⟨x,t,u,p,q,S,E1,B,rfl,_⟩:=h;rfl
 ·obtain⟨x,t,u,p,q,S,E1,B,rfl,G,ht,Pz,hp,hq,hB,qq⟩:=h;have hu:=hr.units;have HA:(A.deeper (PyProof.Rows.envOfC "Groups.unite" (au e8) s.heap.objs.size f bR)).units<cLine:=Zz;have hu:(A.deeper (PyProof.Rows.envOfC "Groups.unite" (au e8) s.heap.objs.size f bR)).units+1<cLine:=Zz;refine⟨_,(Zl (Y3 (3) cF.nd (@iF _ _ _ _ _ _ hu (Y_ K (pv 0)) (pv 1) (fun _ _=>rfl))) (Zl (Y3 (4) cF.nd (@iF _ _ _ _ _ _ hu (Y_ K (pv 0)) (pv 2) (fun _ _=>rfl))) (Zh (Zj (Zo (CB K HA) (pv 3) (pv 4) (aV _)) (Zl (Zj (Zo mP (Y9 (aJ K) T.cP (Y4 (@iF _ _ _ _ _ _ hu (Y_ K (pv 0)) (pv 3) (fun _ _=>rfl)))) (Y9 (aJ K) T.cP (Y4 (@iF _ _ _ _ _ _ hu (Y_ K (pv 0)) (pv 4) (fun _ _=>rfl)))) (aV _)) (Zl (Y3 (3) cF.nd (@iF _ _ _ _ _ _ hu (Y_ K (pv 0)) (pv 2) (fun _ _=>rfl))) (Zh (Y3 (4) cF.nd (@iF _ _ _ _ _ _ hu (Y_ K (pv 0)) (pv 1) (fun _ _=>rfl))))) aP) (Zl (Y3 (5) cF.nd (@Ez _ _ _ _ _ _ _ hu (Y_ K (pv 0)) (pv 4) ⟨rfl,rfl,rfl,rfl⟩)) (Zl (@bG _ _ _ _ _ _ _ _ hX.own Zy (@bg _ K _ _ _ (pv 5) (ZC)) (Y6 (6) cF.nd) (Zh (@kr _ _ _ _ _ _ _ _ _ hu (Y_ K (pv 0)) (pv 6) (pv 3) (by exact rfl))) (by intro _;rfl)) (Zh (@a8 _ _ _ _ (Zd K PySem.F.plainAttrs_list PySem.F.slot_list_extend PySem.F.type_list_extend vm (@iF _ _ _ _ _ _ hu (Y_ K (pv 0)) (pv 3) (fun _ _=>rfl)) (Y4 (pv 5))) (ZC)))))) aP)))),?_⟩;obtain⟨dg,dl,dm,kl,km,ld,mm,hg,Fy,D,hE,PV,L8⟩:=id G;obtain⟨l,IY,_⟩:=(hE p p).mp hp;obtain⟨g,IZ,_⟩:=(hE q q).mp hq;obtain⟨tl,vl,yO⟩:∃tl,bu kl (a_ p)=some (.ref tl)∧H tl=some (.tup (jr l)):=by have:=D.lv p;rw[IY]at this;exact this
  obtain⟨tg,vg,L9⟩:∃tg,bu kl (a_ q)=some (.ref tg)∧H tg=some (.tup (jr g)):=by have:=D.lv q;rw[IZ]at this;exact this
  refine⟨fun σ H1=>H1=H∧σ=[some (.ref x),some (.ref t),some (.ref u),some (.ref tl),none,none,none],⟨_,rfl,x,aI,dg,_,_,rfl,hg,Gc.cl,Gc.oS,jx dl dm,_,rfl,dl,_,rfl,by have:=j4.t (k:=a_ p) D.hl ht;rw[vl]at this;exact this,rfl,rfl⟩,?_⟩;rintro σ H1 ⟨rfl,rfl⟩;refine⟨fun σ H2=>H2=H1∧σ=[some (.ref x),some (.ref t),some (.ref u),some (.ref tl),some (.ref tg),none,none],⟨_,rfl,x,aI,dg,_,_,rfl,hg,Gc.cl,Gc.oS,jx dl dm,_,rfl,dl,_,rfl,by have:=j4.t (k:=a_ q) D.hl Pz;rw[vg]at this;exact this,rfl,rfl⟩,?_⟩;rintro σ H2 ⟨rfl,rfl⟩;refine⟨_,rfl,_,rfl,tl,tg,_,_,rfl,rfl, .of yO, .of L9,rfl,rfl,_,rfl,?_⟩;rw[wJ];by_cases BD:l=g
  ·rw[decide_eq_true BD];refine fN ?_;refine qq _ (.same (.refl _)) (G.iff (fun a b=>?_) (Nat.le_refl _));subst BD;unfold qy;rw[hE,hE,hE,hE,hE,IY,IZ];constructor
   ·rintro(z|⟨z1,z2⟩)
    ·exact z
    ·have y1:ld a=some l:=by rcases z1 with⟨y,h1,h2⟩|⟨y,h1,h2⟩<;>(cases h2;exact h1)
     have y2:ld b=some l:=by rcases z2 with⟨y,h1,h2⟩|⟨y,h1,h2⟩<;>(cases h2;exact h1)
     exact⟨l,y1,y2⟩
   ·exact .inl
  rw[decide_eq_false BD];refine jP ?_;obtain⟨m1,BK⟩:=D.ml p l IY;obtain⟨m2,FW⟩:=D.ml q g IZ;obtain⟨al,kZ,Oq,BE,P1,_⟩:∃a us,bu km (a_ l)=some (.ref a)∧H2 a=some (.lst us)∧gI H2 us m1∧S a:=by have:=D.mv l;rw[BK]at this;exact this
  obtain⟨ag,ik,PY,HB,P2,_⟩:∃a us,bu km (a_ g)=some (.ref a)∧H2 a=some (.lst us)∧gI H2 us m2∧S a:=by have:=D.mv g;rw[FW]at this;exact this
  have gl:∀{tt:Addr}{r:Pr},H2 tt=some (.tup (jr r))→j4 H2 dm (.ref tt) (bu km (a_ r)):=fun h=>j4.t (k:=a_ _) D.hm h
  have UO:∀{tt:Addr}{r:Pr},H2 tt=some (.tup (jr r))→j4 H2 dl (.ref tt) (bu kl (a_ r)):=fun h=>j4.t (k:=a_ _) D.hl h
  refine⟨fun σ H3=>H3=H2∧∃l g tl tg p' q',σ=[some (.ref x),some (.ref t),some (.ref u),some (.ref tl),some (.ref tg),none,none]∧l≠g∧H2 tl=some (.tup (jr l))∧H2 tg=some (.tup (jr g))∧ld p'=some l∧ld q'=some g∧∀a b,qy E1 p q a b↔qy E1 p' q' a b,?_,?_⟩
  ·refine⟨_,rfl,x,aI,dg,_,_,rfl,hg,Gc.cl,Gc.members,iV dl dm,_,rfl,dm,_,rfl,by have:=gl yO;rw[Oq]at this;exact this,al,_,rfl, .inl (.of BE),?_⟩;refine⟨_,rfl,x,aI,dg,_,_,rfl,hg,Gc.cl,Gc.members,iV dl dm,_,rfl,dm,_,rfl,by have:=gl L9;rw[PY]at this;exact this,ag,_,rfl, .inl (.of HB),?_⟩;refine⟨_,_,rfl,rfl,_,rfl,?_⟩;refine a9 (fun _=>?_) (fun _=>?_)
   ·refine⟨fun σ H3=>H3=H2∧σ=[some (.ref x),some (.ref t),some (.ref u),some (.ref tg),some (.ref tg),none,none],⟨_,rfl,x,aI,dg,_,_,rfl,hg,Gc.cl,Gc.oS,jx dl dm,_,rfl,dl,_,rfl,by have:=UO Pz;rw[vg]at this;exact this,rfl,rfl⟩,?_⟩;rintro σ H3 ⟨rfl,rfl⟩;refine⟨_,rfl,x,aI,dg,_,_,rfl,hg,Gc.cl,Gc.oS,jx dl dm,_,rfl,dl,_,rfl,by have:=UO ht;rw[vl]at this;exact this,rfl,g,l,tg,tl,q,p,rfl,Ne.symm BD,L9,yO,IZ,IY,fun a b=>CC⟩
   ·exact⟨rfl,l,g,tl,tg,p,q,rfl,BD,yO,L9,IY,IZ,fun a b=>Iff.rfl⟩
  rintro σ H3 ⟨rfl,l,g,tl,tg,p',q',rfl,BD,yO,L9,IY,IZ,Xh⟩;obtain⟨m1,BK⟩:=D.ml p' l IY;obtain⟨m2,FW⟩:=D.ml q' g IZ;obtain⟨al,kZ,Oq,BE,P1,UP⟩:∃a us,bu km (a_ l)=some (.ref a)∧H3 a=some (.lst us)∧gI H3 us m1∧S a:=by have:=D.mv l;rw[BK]at this;exact this
  obtain⟨ag,ik,PY,HB,P2,YJ⟩:∃a us,bu km (a_ g)=some (.ref a)∧H3 a=some (.lst us)∧gI H3 us m2∧S a:=by have:=D.mv g;rw[FW]at this;exact this
  have YK:al≠ag:=fun z=>BD (D.inj l g al Oq (by rw[PY,z]))
  have l1:=D.sI (D.ms l m1 BK).1 (fun r hr=>⟨l,((D.ms l m1 BK).2 r).mp hr⟩);have l2:=D.sI (D.ms g m2 FW).1 (fun r hr=>⟨g,((D.ms g m2 FW).2 r).mp hr⟩);have nx:x≠dl:=fun z=>Fy (by rw[z];exact D.sl)
  have PX:x≠dm:=fun z=>Fy (by rw[z];exact D.sm)
  have Ot:al≠dl:=fun z=>by rw[z,D.hl]at BE;cases BE
  have Ou:al≠dm:=fun z=>by rw[z,D.hm]at BE;cases BE
  have Ov:ag≠dl:=fun z=>by rw[z,D.hl]at HB;cases HB
  have Lq:ag≠dm:=fun z=>by rw[z,D.hm]at HB;cases HB
  have AA:=P2.1;refine⟨fun σ H4=>H4=upd H3 dm (.dT (iZ km (a_ g)))∧σ=[some (.ref x),some (.ref t),some (.ref u),some (.ref tl),some (.ref tg),some (.ref ag),none],?_,?_⟩
  ·exact⟨_,rfl,x,aI,dg,_,_,rfl,hg,Gc.cl,Gc.members,iV dl dm,dm,rfl, .inr ⟨km, .of D.hm⟩,_,rfl,dm,tg,km,a_ g,_,rfl,rfl,D.hm,L9,PY,rfl,rfl⟩
  rintro σ H4 ⟨rfl,rfl⟩;refine⟨fun σ H5=>(∃w,σ=[some (.ref x),some (.ref t),some (.ref u),some (.ref tl),some (.ref tg),some (.ref ag),w])∧∃uv,H5 dl=some (.dT uv)∧uv.length≤B∧(∀r,bu uv (a_ r)=if r∈m2 then some (.ref tl)else bu kl (a_ r))∧SameBut dl (upd H3 dm (.dT (iZ km (a_ g)))) H5,?_,?_⟩
  ·refine⟨_,rfl,ag,rfl,⟨_, .of (by rw[ak Lq];exact HB)⟩,?_⟩;refine bU (xs:=ik) (fun i σ H5=>(∃w,σ=[some (.ref x),some (.ref t),some (.ref u),some (.ref tl),some (.ref tg),some (.ref ag),w])∧∃uv,H5 dl=some (.dT uv)∧uv.length≤B∧(∀r,bu uv (a_ r)=if r∈m2.take i then some (.ref tl)else bu kl (a_ r))∧SameBut dl (upd H3 dm (.dT (iZ km (a_ g)))) H5) ?_ ?_ ?_ ?_
   ·exact⟨⟨_,rfl⟩,kl,by rw[ak D.ne];exact D.hl,PV,fun r=>ZD, .refl⟩
   ·rintro i σ H5 _ ⟨_,uv,_,_,_,s5⟩;exact .of (s5 _ _ Ov (by rw[ak Lq];exact HB))
   ·rintro i v σ H5 hv ⟨⟨w,rfl⟩,uv,h5,L_,Lr,s5⟩;have hi:i<m2.length:=by rw[←AA];exact(Y' hv).1
    have ei:m2[i]?=some m2[i]:=by simp[hi]
    have i8:m2[i]∈m2:=List.getElem_mem hi;generalize m2[i]=r0 at ei i8;obtain⟨tr,k1,k2⟩:=P2.2 i r0 ei;rw[hv]at k1;cases k1;have UK:tr≠dl:=fun z=>by rw[z,D.hl]at k2;cases k2
    have Si:tr≠dm:=fun z=>by rw[z,D.hm]at k2;cases k2
    have k5:=s5 tr _ UK (by rw[ak Si];exact k2);have g5:=s5 x _ nx (by rw[ak PX];exact hg);refine⟨_,rfl,_,rfl,x,aI,dg,_,_,rfl,g5,Gc.cl,Gc.oS,jx dl dm,_,rfl,dl,_,rfl, .t (k:=a_ r0) h5 k5 (bf Zw),⟨_,rfl⟩,_,ae,?_,fun r=>?_,s5.upd⟩
    ·have n6:bu uv (a_ r0)≠none:=by
      rw[Lr];split
      ·simp
      ·have:=D.lv r0;rw[((D.ms g m2 FW).2 r0).mp i8]at this;obtain⟨t0,z,_⟩:=this;rw[z];simp
     have:(putK uv (a_ r0) (.ref tl)).length=uv.length:=by
      unfold putK;rw[h_,Zp (by cases z:bu uv (a_ r0)<;>simp_all),List.length_map]
     omega
    ·rw[i4,Lr];have et:m2.take (i+1)=m2.take i++[r0]:=by rw[List.take_succ,ei];rfl
     rw[et];by_cases e:r=r0
     ·rw[Zp (by rw[e]),Zp (by simp[e])]
     ·rw[Zm (fun z=>e (de z))];by_cases e2:r∈m2.take i
      ·rw[Zp e2,Zp (by simp[e2])]
      ·rw[Zm e2,Zm (by simp[e,e2])]
   ·rintro σ H5 ⟨⟨w,rfl⟩,uv,h5,L_,Lr,s5⟩;rw[AA,List.take_length]at Lr;exact⟨⟨_,rfl⟩,uv,h5,L_,Lr,s5⟩
  rintro σ H5 ⟨⟨w,rfl⟩,uv,h5,L_,Lr,s5⟩;have Sh:tl≠dl:=fun z=>by rw[z,D.hl]at yO;cases yO
  have Sj:tl≠dm:=fun z=>by rw[z,D.hm]at yO;cases yO
  have g5:=s5 x _ nx (by rw[ak PX];exact hg);have m5:=s5 dm _ (Ne.symm D.ne) ae;have UQ:=s5 al _ Ot (by rw[ak Ou];exact BE);have Xi:=s5 ag _ Ov (by rw[ak Lq];exact HB);have Xj:=s5 tl _ Sh (by rw[ak Sj];exact yO);have vd:bu (iZ km (a_ g)) (a_ l)=some (.ref al):=by rw[mj,Zm (fun z=>BD (de z))];exact Oq
  refine⟨_,rfl,x,aI,dg,_,_,rfl,g5,Gc.cl,Gc.members,iV dl dm,_,rfl,dm, .ref al,rfl,by have:=j4.t (k:=a_ l) m5 Xj;rw[vd]at this;exact this, .inl ⟨rfl,_, .of UQ⟩,_,rfl,al,ag,kZ,ik,rfl,rfl,UQ,Xi,?_,?_⟩
  ·have:=P1.1;exact aE Zw
  have Xk:x≠al:=fun z=>Fy (by rw[z];exact UP)
  have I0:∀b o,¬S b→H3 b=some o→upd H5 al (.lst (kZ++ik)) b=some o:=fun b o hb eb=>by
   rw[ak (fun z=>hb (by rw[z];exact UP))];exact s5 b o (fun z=>hb (by rw[z];exact D.sl)) (by rw[ak (fun z=>hb (by rw[z];exact D.sm))];exact eb)
  refine qq _ ⟨fun _ h=> .inl h,I0⟩ ?_;refine⟨dg,dl,dm,uv,iZ km (a_ g),_,_,I0 x _ Fy hg,Fy,D.N5 (tl:=tl) BD BK FW Oq P1 P2 BE yO Lr (by rw[ak (Ne.symm Ot)];exact h5) (by rw[ak (Ne.symm Ou)];exact m5) ae ?_,fun a b=>(Xh a b).trans (K' BD IY IZ (D.ms g m2 FW).2 hE a b),L_,Nat.le_trans (yj _ _) L8⟩;intro b o h1 h2 h3 eb;rw[ak h3];exact s5 b o h1 (by rw[ak h2];exact eb)
variable(jc:mg "sorted"=none)
theorem tP:aK ["self"] ["self"] (au gZ):=⟨rfl,rfl,rfl,by decide+kernel,rfl,by decide+kernel,by decide+kernel⟩
include T Gc jc in
theorem tQ{f:Addr}{fd:FuncData}(F:iy K "told" "Groups.told" gZ f fd):aZ P w K mg base (cV P w) true 1 f fd ["self"] (wX aI):=by
 refine F.gK tP Zv (fun bR A outer s H vs Q E hr h hX=>?_)
 ·obtain⟨x,S,E1,B,rfl,_⟩:=h;rfl
 ·obtain⟨x,S,E1,B,rfl,G,hB,q⟩:=h;refine⟨_,(Zh (Zs (@oF _ _ _ _ _ _ _ _ _ _ _ _ _ _ (by exact rfl) (show bB ["self"] (au gZ) _ ["members"] [] []from⟨rfl,by decide+kernel,by decide+kernel,by decide+kernel,rfl,rfl,by decide+kernel,by decide+kernel,by decide+kernel⟩) (@GW _ H _ _ _ _ _ (Y_ K (pv 0)) (ZC) (ZC) (ZC)) (fun _ _ _ _ _=>(Y6 (0) (show(["members"]:List Str).Nodup by decide+kernel))) (fun _ _ _ _ _=>jo) (fun _ _ _ _ _=>(Zi (Af K) jc PyProof.Rows.Boot.«sorted» (Y4 (pv 0)))) (by intro _;rfl)))),?_⟩;obtain⟨dg,dl,dm,kl,km,ld,mm,hg,Fy,D,hE,PV,L8⟩:=G;refine⟨_,rfl,x,aI,dg,_,_,rfl,hg,Gc.cl,Gc.members,iV dl dm,dm,km,rfl,D.hm,fun o nf R hR=>?_⟩;have nR:R≠dm:=fun z=>by rw[z,ae]at hR;cases hR
  have Sk:H R=none:=by rw[ak nR]at hR;exact hR
  refine Cz (fun k ys bD H'=>(∃u,bD=[u])∧(∃gs,f' H' ys gs∧gs.length=k∧∀(i:Nat) ps,gs[i]?=some ps→∃l ms v,km[i]?=some (a_ l,v)∧mm l=some ms∧ps.Perm ms∧ps.Pairwise fun p q=>jw p q=true)∧H' R=some (.lst ys)∧(∀b o,b≠dm→H b=some o→H' b=some o)∧H' dm=some (.r9 o (.dT km))∧∀(i:Nat) a,ys[i]?=some (.ref a)→H a=none∧a≠R) ⟨⟨_,rfl⟩,⟨[], .nil,rfl,fun i ps e=>by simp at e⟩,ae,fun b o hb e=>by rw[ak (aD e Sk),ak hb];exact e,by rw[ak (Ne.symm nR),ae],fun i a e=>by simp at e⟩ ?_ ?_ ?_
  ·rintro k ys bD H' _ ⟨_,_,_,_,h4,_⟩;exact h4
  ·rintro k ⟨key,v⟩ ys bD H' hk ⟨⟨u,rfl⟩,⟨gs,W1,hl,L'⟩,Ow,Ma,IX,B9⟩;obtain⟨l,el⟩:=D.key _ (Zk hk);have el:key=a_ l:=el;subst el;have vv:=BC D.BB hk;have mv:=D.mv l;cases e:mm l with
   |none=>
    rw[e]at mv;have mv:bu km (a_ l)=none:=mv;rw[mv]at vv;cases vv
   |some ms=>
    rw[e]at mv;obtain⟨a,us,z1,z2,z3,z4⟩:=mv;rw[vv]at z1;cases z1;obtain⟨nd,Dk⟩:=D.ms l ms e;have Sl:a≠dm:=fun z=>by rw[z,D.hm]at z2;cases z2
    have T:dG H H':=fun b v hb=>Ma b _ (fun z=>by rw[z,D.hm]at hb;cases hb) hb
    refine sN ?_;refine⟨_,rfl,a,us,ms,rfl, .of (Ma _ _ Sl z2),z3.cD T,nd,by have:=D.sI nd (fun p hp=>⟨l,(Dk p).mp hp⟩);omega,fun D2 UR qs lS P2 perm pw=>?_⟩;have PZ:D2≠R:=fun z=>by rw[z,Ow]at lS;cases lS
    have US:D2≠dm:=fun z=>by rw[z,IX]at lS;cases lS
    have Ox:H D2=none:=by
     cases z:H D2 with
     |none=>rfl
     |some o2=>rw[Ma D2 o2 US z]at lS;cases lS
    have UT:=W1.1;have RW:k<km.length:=(Y' hk).1;refine⟨by rw[ak (Ne.symm PZ)];exact Ow,bf Zw,⟨_,rfl⟩,⟨gs++[qs],?_,by simp;omega,fun i ps hi=>?_⟩,ae,fun b o hb eb=>?_,?_,fun i a ha=>?_⟩
    ·have W2:f' (upd H' D2 (.lst UR)) ys gs:=W1.same (ax.upd lS);have W3:f' (upd H' D2 (.lst UR)) (ys++[.ref D2]) (gs++[qs]):=W2.append (.one ae (P2.same (ax.upd lS)));refine W3.put (fun i e=>?_) (by rw[ak (Ne.symm PZ)];exact Ow);by_cases hi:i<ys.length
     ·rw[List.getElem?_append_left hi]at e;exact(B9 i R e).2 rfl
     ·have:=(Y' e).1;have:i=ys.length:=by simp at this;omega
      subst this;simp at e;exact PZ e
    ·by_cases FO:i<gs.length
     ·rw[List.getElem?_append_left FO]at hi;exact L' i ps hi
     ·have:=(Y' hi).1;have:i=gs.length:=by simp at this;omega
      subst this;simp at hi;subst hi;exact⟨l,ms,_,by rw[hl];exact hk,e,perm,pw⟩
    ·rw[ak (aD eb Sk),ak (aD eb Ox)];exact Ma b o hb eb
    ·rw[ak (Ne.symm nR),ak (Ne.symm US)];exact IX
    ·by_cases hi:i<ys.length
     ·rw[List.getElem?_append_left hi]at ha;exact B9 i a ha
     ·have:=(Y' ha).1;have:i=ys.length:=by simp at this;omega
      subst this;simp at ha;subst ha;exact⟨Ox,PZ⟩
  ·rintro ys bD H' ⟨_,⟨gs,W1,hl,L'⟩,Ow,Ma,IX,B9⟩;refine q _ R ys gs ⟨fun a h=> .inl h,fun b o hb eb=>Ma b o (fun z=>hb (by rw[z];exact D.sm)) eb⟩ Sk Ow W1 (fun k a h=>(B9 k a h).1) ?_;have at_:∀ps∈gs,∃l ms,mm l=some ms∧ps.Perm ms∧ps.Pairwise (fun p q=>jw p q=true):=fun ps Di=>by
    obtain⟨i,hi⟩:=List.getElem?_of_mem Di;obtain⟨l,ms,v,_,h2,h3,h4⟩:=L' i ps hi;exact⟨l,ms,h2,h3,h4⟩
   refine⟨fun ps Di=>?_,fun ps Di=>?_,fun ps Di a ha b=>?_,fun a ha=>?_,?_⟩
   ·obtain⟨_,_,_,_,h4⟩:=at_ ps Di
    exact h4
   ·obtain⟨l,ms,h2,h3,_⟩:=at_ ps Di
    intro z;subst z;have:l∈ms:=((D.ms l ms h2).2 l).mpr (D.self l ms h2);have:=h3.mem_iff.mpr this;cases this
   ·obtain⟨l,ms,h2,h3,_⟩:=at_ ps Di
    have ha:=((D.ms l ms h2).2 a).mp (h3.mem_iff.mp ha);rw[h3.mem_iff,(D.ms l ms h2).2,hE,ha];exact⟨fun z=>⟨l,rfl,z⟩,fun⟨y,h,z⟩=>by cases h;exact z⟩
   ·obtain⟨l,h1,_⟩:=(hE a a).mp ha;obtain⟨ms,Dk⟩:=D.ml a l h1;have mv:=D.mv l;rw[Dk]at mv;obtain⟨aa,us,z1,_⟩:=mv;obtain⟨i,hi⟩:=yN z1;have hZ:i<gs.length:=by rw[hl];exact(Y' hi).1
    obtain⟨l2,Xl,v,h5,h6,h7,_⟩:=L' i gs[i] (by simp[hZ]);rw[hi]at h5;have:l=l2:=de (Prod.mk.inj (Zt h5)).1;subst this;refine⟨gs[i],List.getElem_mem hZ,h7.mem_iff.mpr ?_⟩;exact((D.ms l Xl h6).2 a).mpr h1
   ·rw[List.pairwise_iff_getElem];intro i j hi hj uh a ha hb;obtain⟨l1,m1,v1,a1,a2,a3,_⟩:=L' i gs[i] (by simp[hi]);obtain⟨l2,m2,v2,b1,b2,b3,_⟩:=L' j gs[j] (by simp[hj]);have ha:=((D.ms l1 m1 a2).2 a).mp (a3.mem_iff.mp ha);have hb:=((D.ms l2 m2 b2).2 a).mp (b3.mem_iff.mp hb);rw[ha]at hb;cases hb;have nd:=D.BB;have h1:(km.map (·.1))[i]?=some (a_ l1):=by rw[List.getElem?_map,a1];rfl
    have h2:(km.map (·.1))[j]?=some (a_ l1):=by rw[List.getElem?_map,b1];rfl
    have:=(List.getElem?_inj (Y' h1).1 nd).mp (h1.trans h2.symm);omega
variable(mB:mQ P w K mg base true 1 "Groups" aI ["self"] [] (tq aI))
variable(Hc:IM K az)
theorem lp:aK ["self","trails","worth"] ["self","trails","worth"] (au e_):=⟨rfl,rfl,rfl,by decide+kernel,rfl,by decide+kernel,by decide+kernel⟩
include T mB Hc in
theorem lq{f:Addr}{fd:FuncData}(F:iy K "__init__" "Gathering.__init__" e_ f fd):aZ P w K mg base (cV P w) true 3 f fd ["self","trails","worth"] (qz az aI):=by
 refine F.gK lp Zv (fun bR A outer s H vs Q E hr h hX=>?_)
 ·obtain⟨x,dx,tr,W,rfl,_⟩:=h;rfl
 ·obtain⟨x,dx,tr,W,rfl,hx,q⟩:=h;refine⟨_,(Ze (Zq K (pv 0) (pv 1)) (Ze (Zq K (pv 0) (pv 2)) (Ze (Zq K (pv 0) (@E2 _ _ _ _ _ _ _ _ _ _ _ mB (hr.mono (ZA)) hX.pass (ZC) (ZA))) (Zh (Zq K (pv 0) j5))))),?_⟩;refine⟨_,rfl,_,rfl,x,az,dx,_,rfl,hx,Hc.cl,Hc.tE,ZA,?_⟩;refine⟨_,rfl,_,rfl,x,az,dx,_,rfl,ae,Hc.cl,Hc.worth,by have:=aW "trails" (.ref tr) [];simp at this;omega,?_⟩;rw[f6];refine fun g dg hg P0 eR=>?_
  have Oy:x≠g:=fun z=>by rw[←z,ae]at hg;cases hg
  have Sn:x≠dg:=fun z=>by rw[←z,ae]at P0;cases P0
  have Oz:H g=none:=by rw[ak (Ne.symm Oy)]at hg;exact hg
  have OA:H dg=none:=by rw[ak (Ne.symm Sn)]at P0;exact P0
  refine⟨g,dg,rfl,ae,fun H1 S1 xV So G1=>⟨rfl,?_⟩⟩;have keep:∀b o,b≠x→H b=some o→H1 b=some o:=fun b o hb e=>xV b o (aD e Oz) (by rw[ak (aD e Oz),ak (aD e OA),ak hb];exact e)
  have lg:H1 x=some (.ins az dx (bo "worth" (.int W) (bo "trails" (.ref tr) []))):=xV x _ Oy (by rw[ak Oy,ak Sn];exact ae);have l2:(bo "worth" (.int W) (bo "trails" (.ref tr) [])).length≤2:=by
   have:=aW "trails" (.ref tr) [];have:=aW "worth" (.int W) (bo "trails" (.ref tr) []);simp at*;omega
  refine⟨_,rfl,x,az,dx,_,rfl,lg,Hc.cl,Hc.groups,Zz,?_⟩;refine fun dk P6=>?_
  have Mb:x≠dk:=fun z=>by rw[←z,ae]at P6;cases P6
  have Fz:H1 dk=none:=by rw[ak (Ne.symm Mb)]at P6;exact P6
  have Sq:H dk=none:=by
   cases e:H dk with
   |none=>rfl
   |some o=>rw[keep dk o (Ne.symm Mb) e]at Fz;cases Fz
  refine⟨_,rfl,x,az,dx,_,rfl,by rw[ak Mb];exact ae,Hc.cl,Hc.marks,by have:=aW "groups" (.ref g) (bo "worth" (.int W) (bo "trails" (.ref tr) []));omega,?_⟩;rw[Le];have P7:¬S1 x:=fun z=>by
   have:=So x z;rw[ak Oy,ak Sn,ae]at this;cases this
  have Xm:¬S1 g:=fun z=>by
   have:=So g z;rw[ae]at this;cases this
  have G2:=G1.nt;have fin:∀b o,b≠x→H1 b=some o→upd (upd (upd H1 x (.ins az dx (bo "groups" (.ref g) (bo "worth" (.int W) (bo "trails" (.ref tr) []))))) dk (.dT [])) x (.ins az dx (jT tr W g dk)) b=some o:=fun b o hb e=>by
   rw[ak hb,ak (aD e Fz),ak hb];exact e
  have Sr:¬(S1 dk∧NT H1 dk):=fun z=>by
   obtain⟨o,e,_⟩:=z.2;rw[Fz]at e;cases e
  refine q _ (fun a=>(S1 a∧NT H1 a)∨a=dk) (fun b o hb e=>fin b o hb (keep b o hb e)) (fun a ha=>?_) ⟨dx,g,dk,[],fun a=>S1 a∧NT H1 a,ae,G2.keep (fun a o hs e=>fin a o (fun z=>P7 (by rw[←z];exact hs.1)) e) (fun b v hb=>fin b _ (fun z=>by rw[z,lg]at hb;cases hb) hb) (fun o e=>fin g o (Ne.symm Oy) e),by rw[ak (Ne.symm Mb),ae],fun c=>rfl,Nat.le_refl _,fun a=>Iff.rfl,Sr,fun z=>z.elim (fun y=>P7 y.1) Mb,fun z=>z.elim (fun y=>Xm y.1) (fun y=>?_),fun a ha=>?_⟩
  ·rcases ha with ha|ha
   ·have:=So a ha.1;cases e:H a with
    |none=>rfl
    |some o=>rw[ak (aD e Oz),ak (aD e OA),ak (fun z=>P7 (by rw[←z];exact ha.1)),e]at this;cases this
   ·rw[ha];exact Sq
  ·obtain⟨YL,dl,dm,kl,Hg,ld,mm,og,_⟩:=G1;rw[y,Fz]at og;cases og
  ·rcases ha with⟨h1,o,h2,h3⟩|ha
   ·exact⟨o,fin a o (fun z=>P7 (by rw[←z];exact h1)) h2,h3⟩
   ·exact⟨_,by rw[ha,ak (Ne.symm Mb),ae],fun v=>(ZD)⟩
variable(cL:eF P w K mg base true 1 aI "unite" ["self","pair","other"] (tw aI))
theorem o_:aK ["self","crossing","pair"] ["self","crossing","pair"] (au fv):=⟨rfl,rfl,rfl,by decide+kernel,rfl,by decide+kernel,by decide+kernel⟩
include T Hc cL in
theorem pd{f:Addr}{fd:FuncData}(F:iy K "mark" "Gathering.mark" fv f fd):aZ P w K mg base (cV P w) true 2 f fd ["self","crossing","pair"] (tF az aI):=by
 refine F.gK o_ Zv (fun bR A outer s H vs Q E hr h hX=>?_)
 ·obtain⟨x,tc,tp,tr,W,c,r,S,s1,B,M,rfl,_⟩:=h;rfl
 ·obtain⟨x,tc,tp,tr,W,c,r,S,s1,B,M,rfl,G,hc,hp,Lb,h0,hB,hM,q⟩:=h;have hu:=hr.units;have hu:(A.deeper (PyProof.Rows.envOfC "Gathering.mark" (au fv) s.heap.objs.size f bR)).units+1<cLine:=Zz;refine⟨_,(Zh (Zj (Zf (@qf _ _ _ _ _ hu (pv 1) (Y_ K (pv 0)))) (Zh (@a8 _ _ _ _ (Zg (Y_ K (pv 0)) cL (hr.mono (ZA)) aQ (Y8 (@iF _ _ _ _ _ _ hu (Y_ K (pv 0)) (pv 1) (fun _ _=>rfl)) (Y4 (pv 2)))) (ZC))) (Zh (@kr _ _ _ _ _ _ _ _ _ hu (Y_ K (pv 0)) (pv 1) (pv 2) (by exact rfl))))),?_⟩;obtain⟨dx,g,dk,km,S1,D⟩:=id G;refine⟨_,rfl,_,rfl,x,az,dx,_,_,rfl,D.ob,Hc.cl,Hc.marks,lI tr W g dk,dk,_,rfl, .t (k:=a_ c) D.hk hc,_,rfl,?_⟩;have mv:=D.mv c;cases e:s1.2 c with
  |none=>
   rw[e]at mv;have mv:bu km (a_ c)=none:=mv;rw[mv];refine fN ?_;have hl:=D.len;refine⟨_,rfl,_,rfl,x,az,dx,_,_,rfl,D.ob,Hc.cl,Hc.marks,lI tr W g dk,_,rfl,dk,_,rfl, .t (k:=a_ c) D.hk hc (bf Zw),?_⟩;obtain⟨u,D'⟩:=D.put (c:=c) hp;refine q _ S u ⟨dx,g,dk,putK km (a_ c) (.ref tp),S1,?_⟩;unfold yP;rw[e];exact D'
  |some r0=>
   rw[e]at mv;obtain⟨t0,v0,Xn⟩:=mv;rw[v0];refine jP ?_;obtain⟨dg,dl,dm,kl,Hg,ld,mm,og,_⟩:=id D.gr;refine⟨_,rfl,x,az,dx,_,_,rfl,D.ob,Hc.cl,Hc.groups,iW tr W g dk,g,dg,_,rfl,og,Bz dl dm,_,rfl,x,az,dx,_,_,rfl,D.ob,Hc.cl,Hc.marks,lI tr W g dk,_,rfl,dk,_,rfl,by have:=j4.t (k:=a_ c) D.hk hc;rw[v0]at this;exact this,_,rfl,g,t0,tp,r0,r,S1,s1.1,B,rfl,D.gr,Xn,hp,h0 r0 e,Lb,hB,fun H' u G'=>?_⟩;obtain⟨S',S2,u2,D2⟩:=D.PB u G';refine q _ S' u2 ⟨dx,g,dk,km,S2,?_⟩;unfold yP;rw[e];exact⟨D2.ob,D2.gr,D2.hk,D2.mv,by have:=D2.len;omega,D2.sS,D2.BB,D2.nx,D2.ng,D2.nt⟩
variable(cj:eF P w K mg base true 1 aI "take_in" ["self","pair"] (wV aI))
variable(ck:eF P w K mg base true 2 az "mark" ["self","crossing","pair"] (tF az aI))
theorem fg:aK ["self","crossing","pair","later","before"] ["self","crossing","pair"] (au dE):=⟨rfl,rfl,rfl,by decide+kernel,rfl,by decide+kernel,by decide+kernel⟩
include T ba aY Hc cL cj ck in
theorem lT{f:Addr}{fd:FuncData}(F:iy K "go_over" "Gathering.go_over" dE f fd):aZ P w K mg base (cV P w) true 3 f fd ["self","crossing","pair"] (tG az aI aA):=by
 refine F.gK fg Zv (fun bR A outer s H vs Q E hr h hX=>?_)
 ·obtain⟨x,tc,tp,tr,dt,e,b,es,bs,f,o,p,n,m,W,i,j,r,S,s1,B,M,H0,rfl,_⟩:=h;rfl
 ·obtain⟨x,tc,tp,tr,dt,e,b,es,bs,f1,o,p,n,m,W,i,j,r,S,s1,B,M,H0,rfl,G,TR,BA,hc,hp,hi,hj,TP,OK,hs,hB,hM,q⟩:=h;have hu:=hr.units;have hu:(A.deeper (PyProof.Rows.envOfC "Gathering.go_over" (au dE) s.heap.objs.size f bR)).units+1<cLine:=Zz;refine⟨_,(Zl (Y3 (3) fg.nd (@iF _ _ _ _ _ _ hu (Y_ K (pv 0)) (pv 1) (fun _ _=>rfl))) (Zl (Zj (@bY _ _ _ (Zg (Y_ K (pv 0)) ba (hr.mono (ZA)) aQ (Y8 (pv 1) (Y4 (pv 2)))) (by intro _;rfl)) (Zl (@a8 _ _ _ _ (Zg (Y_ K (pv 0)) cj (hr.mono (ZA)) aQ (Y4 (pv 2))) (ZC)) (Zh (@a8 _ _ _ _ (Zg (Y_ K (pv 0)) cL (hr.mono (ZA)) aQ (Y8 (pv 2) (Y4 (pv 3)))) (ZC)))) aP) (Zh (@bG _ _ _ _ _ _ _ _ hX.own Zy (@bg _ K _ _ _ (Zg (Y_ K (pv 0)) aY (hr.mono (ZA)) aQ (Y4 (pv 1))) (ZC)) (Y6 (4) fg.nd) (Zh (@a8 _ _ _ _ (Zg (pv 0) ck (hr.mono (ZA)) aQ (Y8 (pv 4) (Y4 (pv 3)))) (ZC))) (by intro _;rfl))))),?_⟩;obtain⟨dx,g,dk,km,S1,D⟩:=id G;obtain⟨tl,vl,yO⟩:∃tl,bu km (a_ (aR (i+1,j+1)))=some (.ref tl)∧H tl=some (.tup (jr r)):=by have:=D.mv (aR (i+1,j+1));rw[hs]at this;exact this
  obtain⟨L4,i2,j2,e2,OV⟩:=OK.mr _ _ hs;obtain⟨rfl,rfl⟩:=iH e2;refine⟨fun σ H1=>H1=H∧σ=[some (.ref x),some (.ref tc),some (.ref tp),some (.ref tl),none],⟨_,rfl,x,az,dx,_,_,rfl,D.ob,Hc.cl,Hc.marks,lI tr W g dk,_,rfl,dk,_,rfl,by have:=j4.t (k:=a_ (aR (i+1,j+1))) D.hk hc;rw[vl]at this;exact this,rfl,rfl⟩,?_⟩;rintro σ H1 ⟨rfl,rfl⟩;have T1:=TR.keep BA.same;refine⟨fun σ H2=>σ=[some (.ref x),some (.ref tc),some (.ref tp),some (.ref tl),none]∧∃S',oR S H1 S' H2∧ip H2 az aI x tr W S' (IK f1 o p i j s1 r) (B+1) M,?_,?_⟩
  ·refine⟨_,rfl,x,az,dx,_,_,rfl,D.ob,Hc.cl,Hc.tE,mw tr W g dk,tr,dt,_,rfl,T1.ob,IH o p e b,_,rfl,_,rfl,tr,dt,e,b,es,bs,f1,o,p,n,m,tc,tp,i+1,j+1,i,j,rfl,T1,hc,hp,Zz,Zz,hi,hj,_,rfl,?_⟩;unfold IK;refine a9 (fun hh=>?_) (fun hh=>?_)
   ·have hh:=of_decide_eq_true hh;rw[Zp hh];refine⟨fun σ H2=>σ=[some (.ref x),some (.ref tc),some (.ref tp),some (.ref tl),none]∧∃S',oR S H1 S' H2∧ip H2 az aI x tr W S' (IJ s1.1 (aR (i,j)),s1.2) (B+1) M,?_,?_⟩
    ·obtain⟨dg,dl,dm,kl,Hg,ld,mm,og,_⟩:=id D.gr;refine⟨_,rfl,x,az,dx,_,_,rfl,D.ob,Hc.cl,Hc.groups,iW tr W g dk,g,dg,_,rfl,og,E5 dl dm,_,rfl,g,tp,aR (i,j),S1,s1.1,B,rfl,D.gr,hp,Zz,fun H' Lg u G'=>?_⟩;obtain⟨S',S2,u2,D2⟩:=D.PB u G';exact⟨rfl,S',u2,dx,g,dk,km,S2,D2⟩
    rintro σ H2 ⟨rfl,S',u2,G2⟩;obtain⟨P8,g2,P9,Hg,S2,D2⟩:=id G2;have T:=u2.cD G.nt;obtain⟨dg,dl,dm,kl,YM,ld,mm,og,_⟩:=id D2.gr;refine⟨_,rfl,x,az,P8,_,_,rfl,D2.ob,Hc.cl,Hc.groups,iW tr W g2 P9,g2,dg,_,rfl,og,Bz dl dm,_,rfl,_,rfl,g2,tp,tl,aR (i,j),r,S2,_,B+1,rfl,D2.gr,T _ _ hp,T _ _ yO, .inr ⟨rfl,rfl⟩, .inl L4,Zz,fun H' u G'=>?_⟩;obtain⟨Pu,S3,u3,D3⟩:=D2.PB u G';exact⟨rfl,Pu,u2.trans u3,P8,g2,P9,Hg,S3,D3⟩
   ·have hh:¬dC f1 o p i j=Bq f1 o p (i+1) (j+1):=fun z=>hh (decide_eq_true z)
    rw[Zm hh];exact⟨rfl,S, .same (.refl _),G.cast rfl (Zz) (Nat.le_refl _)⟩
  rintro σ H2 ⟨rfl,S2,u2,G2⟩;obtain⟨Xo,UU,_⟩:=Fb TP OK L4 OV;have BL:=BA.ups u2;have T2:=TR.keep BL.same;have TT:=u2.cD G.nt;obtain⟨P8,g2,P9,Hg,S3,D2⟩:=id G2;refine⟨_,rfl,x,az,P8,_,_,rfl,D2.ob,Hc.cl,Hc.tE,mw tr W g2 P9,tr,dt,_,rfl,T2.ob,Bx o p e b,_,rfl,tr,dt,e,b,es,bs,f1,o,p,n,m,tc,i,j,rfl,T2,TT _ _ hc,hi,hj,fun H3 rr us s3 rz xf P3=>?_⟩;refine⟨rr,rfl,⟨_, .of xf⟩,?_⟩;have hlen:(bq f1 o p i j).length≤2:=by
   unfold bq;rw[List.length_append];split<;>split<;>simp
  have Xp:=rq TP OV;refine bU (xs:=us) (fun k σ H4=>(∃w,σ=[some (.ref x),some (.ref tc),some (.ref tp),some (.ref tl),w])∧∃S4,oR S H1 S4 H4∧ip H4 az aI x tr W S4 (((bq f1 o p i j).take k).foldl (fun s c=>yP s c r) (IK f1 o p i j s1 r)) (B+1) (M+k)∧H4 rr=some (.lst us)∧gI H4 us (bq f1 o p i j)∧¬S4 rr∧H4 tl=some (.tup (jr r))) ?_ ?_ ?_ ?_
  ·have G3:=G2.same s3;refine⟨⟨_,rfl⟩,S2,u2.trans (.same s3),G3.cast Zu (Nat.le_refl _) (Nat.le_refl _),xf,P3,G2.out rz,s3 _ _ (TT _ _ yO)⟩
  ·rintro k σ H4 _ ⟨_,S4,_,_,h4,_⟩;exact .of h4
  ·rintro k v σ H4 hv ⟨⟨w,rfl⟩,S4,u4,G4,h4,P4,n4,t4⟩;have hk:k<(bq f1 o p i j).length:=by rw[←P4.1];exact(Y' hv).1
   have ek:(bq f1 o p i j)[k]?=some (bq f1 o p i j)[k]:=by simp[hk]
   have i8:(bq f1 o p i j)[k]∈bq f1 o p i j:=List.getElem_mem hk;generalize (bq f1 o p i j)[k]=c at ek i8;obtain⟨t,k1,k2⟩:=P4.2 k c ek;rw[hv]at k1;cases k1;obtain⟨Xq,Xr,_⟩:=tD TP ((bq f1 o p i j).take k) _ Xo (UU.e _ _ L4) (fun c hc=>Xp c (List.mem_of_mem_take hc));obtain⟨Xs,g4,Xu,YN,S5,D4⟩:=id G4;refine⟨_,rfl,x,Xs,_,rfl,D4.ob,BF tr W g4 Xu,_,rfl,_,rfl,x,t,tl,tr,W,c,r,S4,_,B+1,M+k,rfl,G4,k2,t4,Xr.e _ _ (UU.e _ _ L4),fun r0 h=>(Xq.mr _ _ h).1,Zz,Zz,fun H5 S6 u5 G5=>?_⟩;have T5:=u5.cD G4.nt;refine⟨⟨_,rfl⟩,S6,u4.trans u5,G5.cast ?_ (Nat.le_refl _) (Zz),u5.keep rr _ n4 h4,P4.cD T5,u5.out n4 h4,T5 _ _ t4⟩;rw[List.take_succ,ek];simp
  ·rintro σ H4 ⟨⟨w,rfl⟩,S4,u4,G4,h4,P4,n4,t4⟩;refine q _ S4 u4 (G4.cast ?_ (Nat.le_refl _) (by have:=P4.1;omega));rw[P4.1,List.take_length];rfl
variable(iL:eF P w K mg base true 1 aI "has" ["self","pair"] (Am aI))
variable(dF:eF P w K mg base true 3 az "go_over" ["self","crossing","pair"] (tG az aI aA))
theorem fS:aK ["self","i","j","pair","behind"] ["self","i","j"] (au eL):=⟨rfl,rfl,rfl,by decide+kernel,rfl,by decide+kernel,by decide+kernel⟩
include T Rc cf Hc cj ck iL dF in
theorem nN{f:Addr}{fd:FuncData}(F:iy K "visit" "Gathering.visit" eL f fd):aZ P w K mg base (cV P w) true 4 f fd ["self","i","j"] (qA az aI aA):=by
 refine F.gK fS Zv (fun bR A outer s H vs Q E hr h hX=>?_)
 ·obtain⟨x,tr,dt,e,b,es,bs,f,o,p,n,m,W,i,j,S,s1,B,M,H0,rfl,_⟩:=h;rfl
 ·obtain⟨x,tr,dt,e,b,es,bs,f1,o,p,n,m,W,i,j,S,s1,B,M,H0,rfl,G,TR,BA,hi,hj,hn,hm,TP,OK,hB,hM,q⟩:=h;have hu:=hr.units;have hu:(A.deeper (PyProof.Rows.envOfC "Gathering.visit" (au eL) s.heap.objs.size f bR)).units+1<cLine:=Zz;refine⟨_,(Zl (Y3 (3) fS.nd (@eV _ _ _ _ _ (Y8 (pv 1) (Y4 (pv 2))))) (Zl (Y3 (4) fS.nd (@eV _ _ _ _ _ (Y8 (Za bp (pv 1) af) (Y4 (Za bp (pv 2) af))))) (Zl (Zj (Zo jm (Y7 (Y7 (Y_ K (Y_ K (pv 0))) (pv 1)) (pv 2)) (Y_ K (pv 0)) (aV _)) (Zh (@a8 _ _ _ _ (Zg (Y_ K (pv 0)) cj (hr.mono (ZA)) aQ (Y4 (pv 3))) (ZC))) aP) (Zl (Zj (Zf (@qf _ _ _ _ _ hu (pv 4) (Y_ K (pv 0)))) (Zh (@a8 _ _ _ _ (Zg (pv 0) dF (hr.mono (ZA)) aQ (Y8 (pv 4) (Y4 (pv 3)))) (ZC))) aP) (Zh (Zj (@PW.pt _ _ _ (@pw_and _ _ _ _ _ _ _ (@bY _ _ _ (Zg (Y_ K (pv 0)) iL (hr.mono (ZA)) aQ (Y4 (pv 3))) (by intro _;rfl)) (@pw_and1 _ _ _ _ (@bY _ _ _ (Zg (Y_ K (pv 0)) cf (hr.mono (ZA)) aQ (Y4 (pv 3))) (by intro _;rfl))))) (Zh (@a8 _ _ _ _ (Zg (pv 0) ck (hr.mono (ZA)) aQ (Y8 (pv 3) (Y4 (pv 3)))) (ZC))) aP)))))),?_⟩;refine⟨fun σ H1=>∃t,σ=[some (.ref x),some (.int i),some (.int j),some (.ref t),none]∧ax H H1∧H1 t=some (.tup (jr (aR (i,j)))),⟨_,rfl,_,rfl,aE Zu,fun t ht=>⟨t,rfl,ax.upd ht,ae⟩⟩,?_⟩;rintro σ H1 ⟨t,rfl,s2,ht⟩;refine⟨fun σ H2=>∃u,σ=[some (.ref x),some (.int i),some (.int j),some (.ref t),some (.ref u)]∧ax H1 H2∧H2 u=some (.tup (jr (aR (i+1,j+1)))),⟨_,rfl,_,_,rfl,rfl,_,rfl,_,_,rfl,rfl,aE Zu,fun u hu=>⟨u,rfl,ax.upd hu,ae⟩⟩,?_⟩;rintro σ H2 ⟨u,rfl,s3,Pt⟩;have uj:=s3 _ _ ht;have Mc:=s2.trans s3;have G2:=G.same Mc;have BL:=BA.more Mc;have T2:=TR.keep BL.same;obtain⟨rb,g1,g2,g3⟩:=T2.te.at hi;refine⟨fun σ H3=>σ=[some (.ref x),some (.int i),some (.int j),some (.ref t),some (.ref u)]∧∃S',oR S H2 S' H3∧ip H3 az aI x tr W S' (He f1 o p W i j s1) (B+1) M,?_,?_⟩
  ·obtain⟨dx,g,dk,km,S1,D⟩:=id G2;refine⟨_,rfl,x,az,dx,_,_,rfl,D.ob,Hc.cl,Hc.tE,mw tr W g dk,tr,aA,dt,_,_,rfl,T2.ob,Rc.cl,Rc.kD,ig o p e b,_,rfl,e,_,_,_,rfl,rfl, .of T2.he,ar g2,_,rfl,rb,_,_,_,rfl,rfl, .of g3,ar (c7 hj),_,rfl,x,az,dx,_,_,rfl,D.ob,Hc.cl,Hc.worth,Fi tr W g dk,?_⟩;have IW:decide (bA (dC f1 o p i j)=V.int W)=decide (dC f1 o p i j=some W):=by cases dC f1 o p i j<;>simp[bA]
   refine⟨by cases dC f1 o p i j<;>rfl,_,rfl,?_⟩;rw[IW];unfold He;refine a9 (fun hh=>?_) (fun hh=>?_)
   ·have hh:=of_decide_eq_true hh;rw[Zp hh];obtain⟨dg,dl,dm,kl,Hg,ld,mm,og,_⟩:=id D.gr;refine⟨_,rfl,x,az,dx,_,_,rfl,D.ob,Hc.cl,Hc.groups,iW tr W g dk,g,dg,_,rfl,og,E5 dl dm,_,rfl,g,t,aR (i,j),S1,s1.1,B,rfl,D.gr,uj,Zz,fun H' Lg u G'=>?_⟩;obtain⟨S',S2,u2,D2⟩:=D.PB u G';exact⟨rfl,S',u2,dx,g,dk,km,S2,D2⟩
   ·have hh:¬dC f1 o p i j=some W:=fun z=>hh (decide_eq_true z)
    rw[Zm hh];exact⟨rfl,S, .same (.refl _),G2.cast rfl (Zz) (Nat.le_refl _)⟩
  rintro σ H3 ⟨rfl,S3,u3,G3⟩;have P_:=u3.cD G2.nt;have HC:=BL.ups u3;obtain⟨Xv,GW1,_⟩:=Fe OK i j;refine⟨fun σ H4=>σ=[some (.ref x),some (.int i),some (.int j),some (.ref t),some (.ref u)]∧∃S',oR S3 H3 S' H4∧ip H4 az aI x tr W S' (Dm f1 o p W i j s1) (B+2) (M+2),?_,?_⟩
  ·obtain⟨dx,g,dk,km,S1,D⟩:=id G3;refine⟨_,rfl,_,rfl,x,az,dx,_,_,rfl,D.ob,Hc.cl,Hc.marks,lI tr W g dk,dk,_,rfl, .t (k:=a_ (aR (i+1,j+1))) D.hk (P_ _ _ Pt),_,rfl,?_⟩;have mv:=D.mv (aR (i+1,j+1));have ee:(He f1 o p W i j s1).2=s1.2:=rfl;rw[ee]at mv;unfold Dm;cases e9:s1.2 (aR (i+1,j+1))with
   |none=>
    rw[e9]at mv;have mv:bu km (a_ (aR (i+1,j+1)))=none:=mv;rw[mv];refine fN ?_;exact⟨rfl,S3, .same (.refl _),G3.cast rfl (Zz) (Zz)⟩
   |some r=>
    rw[e9]at mv;obtain⟨tl,vl,yO⟩:=mv;rw[vl];refine jP ?_;exact⟨_,rfl,x,dx,_,rfl,D.ob,Hf tr W g dk,_,rfl,_,rfl,x,u,t,tr,dt,e,b,es,bs,f1,o,p,n,m,W,i,j,r,S3,_,B+1,M,H0,rfl,G3,TR,HC,P_ _ _ Pt,P_ _ _ uj,hi,hj,TP,Xv,e9,Zz,Zz,fun H' S' u G'=>⟨rfl,S',u,G'⟩⟩
  rintro σ H4 ⟨rfl,S4,u4,G4⟩;have Xw:=u4.cD G3.nt;have Xx:=HC.ups u4;have T4:=TR.keep Xx.same;have Qa:=Xw _ _ (P_ _ _ uj);obtain⟨Xy,GW2,_⟩:=Ff TP OK i j;have uu:oR S H S4 H4:=(oR.same Mc).trans (u3.trans u4);obtain⟨dx,g,dk,km,S1,D⟩:=id G4;obtain⟨dg,dl,dm,kl,Hg,ld,mm,og,_⟩:=id D.gr;refine⟨_,rfl,x,az,dx,_,_,rfl,D.ob,Hc.cl,Hc.groups,iW tr W g dk,g,dg,_,rfl,og,N3 dl dm,_,rfl,g,t,aR (i,j),S1,_,B+2,rfl,D.gr,Qa,fun b1 jh=>?_⟩;refine⟨_,rfl,?_⟩;refine a9 (fun hh=>?_) (fun hh=>?_)
  ·refine⟨_,rfl,x,az,dx,_,_,rfl,D.ob,Hc.cl,Hc.tE,mw tr W g dk,tr,dt,_,rfl,T4.ob,E3 o p e b,_,rfl,tr,dt,e,b,es,bs,f1,o,p,n,m,t,i,j,rfl,T4,Qa,Zz,Zz,_,rfl,?_⟩;refine a9 (fun h2=>?_) (fun h2=>?_)
   ·have n6:=jh.mp hh;refine⟨_,rfl,x,dx,_,rfl,D.ob,BF tr W g dk,_,rfl,_,rfl,x,t,t,tr,W,aR (i,j),aR (i,j),S4,_,B+2,M+2,rfl,G4,Qa,Qa,n6,fun r0 h=>(Xy.mr _ _ h).1,Zz,Zz,fun H5 S5 u5 G5=>?_⟩;refine q _ S5 (uu.trans u5) ?_;unfold Z2;rw[Zp ⟨n6,h2⟩];exact G5
   ·refine q _ S4 uu (G4.cast ?_ Zw (Zz));unfold Z2;rw[Zm (fun z=>h2 z.2)]
  ·refine fN ?_;refine q _ S4 uu (G4.cast ?_ Zw (Zz));unfold Z2;rw[Zm (fun z=>hh (jh.mpr z.1))]
variable(iM:mQ P w K mg base true 3 "Gathering" az ["self","trails","worth"] [] (qz az aI))
variable(eP:eF P w K mg base true 4 az "visit" ["self","i","j"] (qA az aI aA))
variable(g_:eF P w K mg base true 1 aI "told" ["self"] (wX aI))
theorem gu:aK ["trails","worth","gathering","i","j"] ["trails","worth"] (au jU):=⟨rfl,rfl,rfl,by decide+kernel,rfl,by decide+kernel,by decide+kernel⟩
include T Rc Hc iM eP g_ in
theorem tR{f:Addr}{fd:FuncData}(F:jn K "best_groups" "best_groups" jU f fd):aZ P w K mg base (cV P w) true 5 f fd ["trails","worth"] (Ap aA):=by
 refine F.gK gu Zv (fun bR A outer s H vs Q E hr h hX=>?_)
 ·obtain⟨tr,dt,e,b,es,bs,f,o,p,n,m,W,rfl,_⟩:=h;rfl
 ·obtain⟨tr,dt,e,b,es,bs,f1,o,p,n,m,W,rfl,TR,IT,UW,hn,hm,TP,q⟩:=h;refine⟨_,(Zl (Y3 (2) gu.nd (@sf _ _ _ _ _ _ _ _ _ _ _ _ _ _ iM (hr.mono (ZA)) hX.pass (Y8 (pv 0) (Y4 (pv 1))) (ZC) (ZA) (ZC) (ZC))) (Zl (@bG _ _ _ _ _ _ _ _ hX.own Zy (@vE _ _ _ _ _ _ _ _ (by exact rfl) T.fJ (Y8 (Za bZ (Y9 (aJ K) T.cP (Y4 (Y_ K (pv 0)))) af) (Y8 (@rf _ _ _ _ _ _ lB af) (Y4 (@rf _ _ _ _ _ _ lB af)))) (ZC) (ZC)) (Y6 (3) gu.nd) (Zh (@bG _ _ _ _ _ _ _ _ hX.own Zy (@vE _ _ _ _ _ _ _ _ (by exact rfl) T.fJ (Y8 (Za bZ (Y9 (aJ K) T.cP (Y4 (Y7 (Y_ K (pv 0)) (pv 3)))) af) (Y8 (@rf _ _ _ _ _ _ lB af) (Y4 (@rf _ _ _ _ _ _ lB af)))) (ZC) (ZC)) (Y6 (4) gu.nd) (Zh (@a8 _ _ _ _ (Zg (pv 2) eP (hr.mono (ZA)) aQ (Y8 (pv 3) (Y4 (pv 4)))) (ZC))) (by intro _;rfl))) (by intro _;rfl)) (Zh (Zs (@Cd _ _ _ _ _ _ _ _ _ _ _ _ _ (Y_ K (pv 2)) g_ (hr.mono (ZA)) aQ (ZC)))))),?_⟩;refine⟨fun σ H1=>∃gx S,σ=[some (.ref tr),some (.int W),some (.ref gx),none,none]∧Base H H1 S∧ip H1 az aI gx tr W S (fun _ _=>False,fun _=>none) 0 0,?_,?_⟩
  ·refine⟨_,rfl,_,rfl,fun y dy hy Lp eR=>⟨y,dy,tr,W,rfl,ae,fun H' S sb fr G=>⟨rfl,y,S,rfl,⟨SameBut.ZI hy Lp sb,fun a ha=>?_⟩,G⟩⟩⟩;have:=fr a ha;cases e9:H a with
   |none=>rfl
   |some o9=>rw[ak (aD e9 hy),ak (aD e9 Lp),e9]at this;cases this
  rintro σ H1 ⟨gx,S,rfl,BA,G⟩;have Hv:es.length=n:=TR.te.1;have V0:=Vd.start f1 o p W n m;refine⟨fun σ H2=>(∃u v,σ=[some (.ref tr),some (.int W),some (.ref gx),u,v])∧∃S s B M,Base H H2 S∧ip H2 az aI gx tr W S s B M∧Vd f1 o p W (Vb n m 0 0) s∧B≤6000,?_,?_⟩
  ·have T1:=TR.keep BA.same;refine⟨_,rfl,tr,aA,dt,_,_,rfl,T1.ob,Rc.cl,Rc.kD,ig o p e b,e,_,rfl, .inl (.of T1.he),_,_,rfl,rfl,_,rfl,_,rfl,_,_,rfl,⟨by rw[List.length_map,Hv];lia,by rw[List.length_map,Hv];lia,ZA,ZA⟩,?_⟩;have en:((((es.map V.ref).length:Nat):Int)-1- -1).toNat=n:=by rw[List.length_map,Hv];lia
   rw[en];refine yK (fun k σ H2=>(∃u v,σ=[some (.ref tr),some (.int W),some (.ref gx),u,v])∧∃S s B M,Base H H2 S∧ip H2 az aI gx tr W S s B M∧Vd f1 o p W (Vb n m (n-k) 0) s∧B≤2*(k*m)∧M≤3*(k*m)) ⟨⟨_,_,rfl⟩,S,_,0,0,BA,G,V0,by lia,by lia⟩ ?_ ?_
   ·rintro k σ H2 hk ⟨⟨u,v,rfl⟩,S2,s2,B,M,BL,G2,V2,hB,hM⟩;have ei:(((es.map V.ref).length:Nat):Int)-1-(k:Int)=((n-1-k:Nat):Int):=by rw[List.length_map,Hv];lia
    rw[ei];have T2:=TR.keep BL.same;obtain⟨rb,g1,g2,g3⟩:=T2.te.at (show n-1-k<n by lia);have V2:Vd f1 o p W (Vb n m (n-1-k) m) s2:=Vd.turn (by rw[show n-1-k+1=n-k by lia];exact V2);have YO:(k+1)*m≤n*m:=Nat.mul_le_mul_right m Zx;have YQ:(k+1)*m=k*m+m:=Nat.succ_mul k m;have lm:∀g:Nat→Option Int,(cY m g).length=m:=fun g=>by simp[cY]
    refine⟨_,rfl,tr,aA,dt,_,_,rfl,T2.ob,Rc.cl,Rc.kD,ig o p e b,_,rfl,e,_,_,_,rfl,rfl, .of T2.he,ar g2,rb,_,rfl, .inl (.of g3),_,_,rfl,rfl,_,rfl,_,rfl,_,_,rfl,⟨by rw[lm];lia,by rw[lm];lia,ZA,ZA⟩,?_⟩;have Xz:((((cY m (dC f1 o p (n-1-k))).length:Nat):Int)-1- -1).toNat=m:=by rw[lm];lia
    rw[Xz];refine yK (fun l σ H3=>(∃v,σ=[some (.ref tr),some (.int W),some (.ref gx),some (.int ((n-1-k:Nat):Int)),v])∧∃S s B M,Base H H3 S∧ip H3 az aI gx tr W S s B M∧Vd f1 o p W (Vb n m (n-1-k) (m-l)) s∧B≤2*(k*m+l)∧M≤3*(k*m+l)) ⟨⟨_,rfl⟩,S2,s2,B,M,BL,G2,V2,hB,hM⟩ ?_ ?_
    ·rintro l σ H3 hl ⟨⟨v3,rfl⟩,S3,s3,B3,M3,HC,G3,V3,XA,XB⟩;have ej:(((cY m (dC f1 o p (n-1-k))).length:Nat):Int)-1-(l:Int)=((m-1-l:Nat):Int):=by rw[lm];lia
     rw[ej];obtain⟨dx,g,dk,km,S1,D⟩:=id G3;have V3:Vd f1 o p W (Vb n m (n-1-k) (m-1-l+1)) s3:=by rw[show m-1-l+1=m-l by lia];exact V3
     refine⟨_,rfl,gx,dx,_,rfl,D.ob,Fj tr W g dk,_,rfl,_,rfl,gx,tr,dt,e,b,es,bs,f1,o,p,n,m,W,n-1-k,m-1-l,S3,s3,B3,M3,H,rfl,G3,TR,HC,by lia,by lia,hn,hm,TP,V3.ok,by lia,by lia,fun H4 S4 u4 G4=>?_⟩;refine⟨⟨_,rfl⟩,S4,_,_,_,HC.ups u4,G4,?_,by lia,by lia⟩;have:=V3.next TP (show n-1-k<n by lia) (show m-1-l<m by lia);rw[show m-(l+1)=m-1-l by lia];exact this
    ·rintro σ H3 ⟨⟨v3,rfl⟩,S3,s3,B3,M3,HC,G3,V3,XA,XB⟩;refine⟨⟨_,_,rfl⟩,S3,s3,B3,M3,HC,G3,?_,by lia,by lia⟩;rw[show n-(k+1)=n-1-k by lia,show(0:Nat)=m-m by lia];exact V3
   ·rintro σ H2 ⟨⟨u,v,rfl⟩,S2,s2,B,M,BL,G2,V2,hB,hM⟩;rw[Nat.sub_self]at V2;exact⟨⟨_,_,rfl⟩,S2,s2,B,M,BL,G2,V2,by lia⟩
  rintro σ H2 ⟨⟨u,v,rfl⟩,S2,s2,B,M,BL,G2,V2,hB⟩;obtain⟨dx,g,dk,km,S1,D⟩:=id G2;obtain⟨dg,dl,dm,kl,Hg,ld,mm,og,_⟩:=id D.gr;have HG:=fun a b=>V2.RX TP IT a b
  refine⟨_,rfl,gx,az,dx,_,_,rfl,D.ob,Hc.cl,Hc.groups,iW tr W g dk,g,dg,_,rfl,og,K9 dl dm,g,S1,_,B,rfl,D.gr,by lia,fun H3 r us gs u3 rz xf W3 LN TD=>?_⟩;have HC:Base H H2 S1:=⟨BL.same,fun a h=>BL.free a ((D.sS a).mpr (.inl h))⟩
  exact q _ r us gs (HC.ups u3).same (BL.same.free rz) xf W3 (fun k a h=>BL.same.free (LN k a h)) (TD.iff HG)
theorem nP:aK ["taken","shut","pair"] ["taken"] (au mz):=⟨rfl,rfl,rfl,by decide+kernel,rfl,by decide+kernel,by decide+kernel⟩
include T in
theorem AB{f:Addr}{fd:FuncData}(F:jn K "shut_by" "shut_by" mz f fd):aZ P w K mg base (cV P w) true 1 f fd ["taken"] wI:=by
 refine F.gK nP Zv (fun bR A outer s H vs Q E hr h hX=>?_)
 ·obtain⟨v,shut,rfl,_⟩:=h;rfl
 ·obtain⟨v,shut,rfl,TV,hlen,q⟩:=h;have hu:=hr.units;have hu:(A.deeper (PyProof.Rows.envOfC "shut_by" (au mz) s.heap.objs.size f bR)).units+1<cLine:=Zz;refine⟨_,(Ze (Y3 (1) nP.nd j5) (Zl (Zj (Zf (@oa _ _ _ _ _ (pv 0))) (Zh (@bG _ _ _ _ _ _ _ _ hX.own Zy (@bg _ K _ _ _ (pv 0) (ZC)) (Y6 (2) nP.nd) (Zh (@kr _ _ _ _ _ _ _ _ _ hu (pv 1) (pv 2) dO Zy)) (by intro _;rfl))) aP) (Zh (Zs (pv 1))))),?_⟩;refine fun d hd=>?_
  refine⟨fun σ H1=>(∃u,σ=[some v,some (.ref d),u])∧ax H H1∧∃kvs,H1 d=some (.dT kvs)∧mT kvs shut,?_,?_⟩
  ·refine⟨_,rfl,_,rfl,?_⟩;rcases TV with⟨rfl,rfl⟩|⟨l,us,rfl,hl,P1⟩
   ·refine a9 (fun hh=>absurd hh Zu) (fun _=>?_);exact⟨⟨_,rfl⟩,ax.upd hd,[],ae,fun p=>by simp[sD]⟩
   ·refine a9 (fun _=>?_) (fun hh=>absurd Zu hh);have Hx:=P1.1;refine⟨_,rfl,l,rfl,⟨_, .of (ax.upd hd _ _ hl)⟩,?_⟩;refine bU (xs:=us) (fun i σ H'=>(∃u,σ=[some (.ref l),some (.ref d),u])∧ax H H'∧∃kvs,H' d=some (.dT kvs)∧kvs.length≤i∧mT kvs (shut.take i)) ?_ ?_ ?_ ?_
    ·exact⟨⟨_,rfl⟩,ax.upd hd,[],ae,Nat.le_refl _,fun p=>by simp[sD]⟩
    ·rintro i σ H' _ ⟨_,s1,_⟩;exact .of (s1 _ _ hl)
    ·rintro i x σ H' hx ⟨⟨u,rfl⟩,s1,kvs,hD,hk,hS⟩;have hi:i<shut.length:=by rw[←Hx];exact(Y' hx).1
     obtain⟨t,xU,uj⟩:=P1.Kd hi;rw[hx]at xU;cases xU;refine⟨_,rfl,_,rfl,d,_,rfl, .t (k:=a_ (pr shut i)) hD (s1 _ _ uj) (bf Zw),⟨_,rfl⟩,s1.ft hd,_,ae,Nat.le_trans (eX _ _ _) (Zz),fun p=>?_⟩;have e1:shut.take (i+1)=shut.take i++[pr shut i]:=by rw[List.take_succ,Ir hi];rfl
     rw[i4,e1];by_cases hp:p=pr shut i
     ·rw[Zp (by rw[hp])];simp[hp]
     ·rw[Zm (fun z=>hp ?_),hS p]
      ·simp[hp]
      ·simp only[a_,List.cons.injEq,Sum.inl.injEq,and_true]at z;exact Prod.ext z.1 z.2
    ·rintro σ H' ⟨⟨u,rfl⟩,s1,kvs,hD,_,hS⟩;rw[Hx,List.take_length]at hS;exact⟨⟨_,rfl⟩,s1,kvs,hD,hS⟩
  rintro σ H1 ⟨⟨u,rfl⟩,s1,kvs,hD,hS⟩;exact⟨_,rfl,q H1 d kvs s1 hD hS⟩
variable(mC:bK P w K mg base true 1 "shut_by" ["taken"] wI)
variable(d8:eF P w K mg base true 1 aU "pair_worth" ["self","x","y"] (wz aU))
theorem dJ:aK ["first","second","terms","taken","shut","worths","i","x","row"] ["first","second","terms","taken"] (au fF):=⟨rfl,rfl,rfl,by decide+kernel,rfl,by decide+kernel,by decide+kernel⟩
include T Tc mC d8 in
theorem tS{f:Addr}{fd:FuncData}(F:jn K "open_worths" "open_worths" fF f fd):aZ P w K mg base (cV P w) true 2 f fd ["first","second","terms","taken"] (tI aU):=by
 refine F.gK dJ Zv (fun bR A outer s H vs Q E hr h hX=>?_)
 ·obtain⟨f,g,t,v,c,shut,rfl,_⟩:=h;rfl
 ·obtain⟨f1,g,t,v,c,shut,rfl,hf,hg,TF,TV,Q2,RQ,UT,q⟩:=h;have hu:=hr.units;have hu:(A.deeper (PyProof.Rows.envOfC "open_worths" (au fF) s.heap.objs.size f bR)).units+1<cLine:=Zz;have lx:(c.xs.map V.str).length=c.xs.length:=List.length_map ..;have ly:(c.ys.map V.str).length=c.ys.length:=List.length_map ..;refine⟨_,(Zl (@aG _ _ (4) _ _ _ _ dJ.nd Zy (Or.inr rfl) (Y5 mC aQ (Y4 (pv 3))) (ZC) (by exact .inl rfl)) (Zl (Y3 (5) dJ.nd (@bI _ _ _ _ ai)) (Zl (@bG _ _ _ _ _ _ _ _ hX.own Zy (@oJ _ K _ _ _ _ _ _ _ (by exact rfl) T.jq (Y4 (pv 0)) (ZC) (ZC)) (@f_ _ K _ _ _ (2) _ (by exact rfl) (@bb _ _ _ _ _ (@aN _ _ (6) _ dJ.nd Zy (Or.inr rfl) (by first|exact .inl rfl|exact .inr rfl|assumption)) (@bb _ _ _ _ _ (@aN _ _ (7) _ dJ.nd Zy (Or.inr rfl) (by first|exact .inl rfl|exact .inr rfl|assumption)) f7 (ZC)) (ZC)) (ZC) (ZC) (ZC)) (Zl (@me _ _ _ _ _ _ _ _ _ _ _ _ _ _ _ (8) _ _ (by exact rfl) dJ.nd Zy (by exact rfl) (show bB ["first","second","terms","taken","shut","worths","i","x","row"] (au fF) _ ["j","y"] [6,4,2,7] ["i","shut","terms","x"]from⟨rfl,by decide+kernel,by decide+kernel,by decide+kernel,rfl,rfl,by decide+kernel,by decide+kernel,by decide+kernel⟩) (@oJ _ K _ _ _ _ _ _ _ (by exact rfl) T.jq (Y4 (pv 1)) (ZC) (ZC)) (fun _ _ _ _ _=>(@f_ _ K _ _ _ (2) _ (by exact rfl) (@bb _ _ _ _ _ (Y6 (0) (show(["j","y","i","shut","terms","x"]:List Str).Nodup by decide+kernel)) (@bb _ _ _ _ _ (Y6 (1) (show(["j","y","i","shut","terms","x"]:List Str).Nodup by decide+kernel)) f7 (ZC)) (ZC)) (ZC) (ZC) (ZC))) (fun _ _ _ _ _=>jo) (fun _ _ _ _ _=>(@oe _ _ _ _ _ _ _ _ (Zf (@qf _ _ _ _ _ hu (@eV _ _ _ _ _ (Y8 (pv 2) (Y4 (pv 0)))) (pv 3))) jO (Zg (pv 4) d8 (hr.mono (ZA)) aQ (Y8 (pv 5) (Y4 (pv 1)))))) (ZC) (by intro _;rfl)) (Zh (@a8 _ _ _ _ (Zd K PySem.F.plainAttrs_list PySem.F.slot_list_append PySem.F.type_list_append bQ (pv 5) (Y4 (pv 8))) (ZC)))) (by intro _;rfl)) (Zh (Zs (pv 5)))))),?_⟩;refine⟨fun σ H1=>∃d kvs,σ=[some (.ref f1),some (.ref g),some (.ref t),some v,some (.ref d),none,none,none,none]∧ax H H1∧H1 d=some (.dT kvs)∧mT kvs shut,?_,?_⟩
  ·exact⟨_,rfl,v,shut,rfl,TV,Q2,fun H1 d kvs s1 hd hS=>⟨d,kvs,rfl,s1,hd,hS⟩⟩
  rintro σ H1 ⟨d,kvs,rfl,s1,XC,hS⟩;refine⟨fun σ H2=>∃e,σ=[some (.ref f1),some (.ref g),some (.ref t),some v,some (.ref d),some (.ref e),none,none,none]∧ax H1 H2∧H1 e=none∧H2 e=some (.lst []),?_,?_⟩
  ·exact⟨aE Zu,fun e he=>⟨e,rfl,ax.upd he,he,ae⟩⟩
  rintro σ H2 ⟨e,rfl,s2,IS,L6⟩;refine⟨fun σ H3=>(∃u1 u2 u3,σ=[some (.ref f1),some (.ref g),some (.ref t),some v,some (.ref d),some (.ref e),u1,u2,u3])∧ax H1 H3∧∃as:List Addr,H3 e=some (.lst (as.map V.ref))∧i7 H3 as (ju c shut) c.xs.length c.ys.length∧(∀a∈as,H1 a=none∧a≠e)∧as.Nodup,?_,?_⟩
  ·refine⟨_,rfl,f1,rfl,⟨_, .of (s2 _ _ (s1 _ _ hf))⟩,?_⟩;refine yt (xs:=c.xs.map V.str) (fun i σ H'=>(∃u1 u2 u3,σ=[some (.ref f1),some (.ref g),some (.ref t),some v,some (.ref d),some (.ref e),u1,u2,u3])∧ax H1 H'∧∃as:List Addr,H' e=some (.lst (as.map V.ref))∧i7 H' as (ju c shut) i c.ys.length∧(∀a∈as,H1 a=none∧a≠e)∧as.Nodup) ?_ ?_ ?_ ?_
   ·exact⟨⟨_,_,_,rfl⟩,s2,[],L6,⟨rfl,fun i a h=>by simp at h⟩,(fun a h=>by cases h), .nil⟩
   ·rintro i σ H' _ ⟨_,s3,_⟩;exact .of (s3 _ _ (s1 _ _ hf))
   ·rintro i x T' σ H' hx ⟨⟨u1,u2,u3,rfl⟩,s3,as,FV,TA,hn,FR⟩ hT;obtain⟨wx,Qb,rfl⟩:=mh hx;have hi:i<c.xs.length:=(Y' Qb).1;have s4:ax H1 (upd H' T' (.tup [.int i, .str wx])):=s3.trans (ax.upd hT);have Qc:=ax.upd (o:= .tup [.int i, .str wx]) hT _ _ FV;have Qd:=TA.same (ax.upd (o:= .tup [.int i, .str wx]) hT);refine⟨T',_,rfl, .of ae,rfl,_,_,rfl,_,_,rfl,rfl,?_⟩;generalize upd H' T' (.tup [.int i, .str wx])=H4 at s4 Qc Qd;clear TA FV s3 hT;refine⟨fun σ H5=>∃r,σ=[some (.ref f1),some (.ref g),some (.ref t),some v,some (.ref d),some (.ref e),some (.int i),some (.str wx),some (.ref r)]∧ax H4 H5∧H4 r=none∧H5 r=some (.lst (cY c.ys.length (ju c shut i))),?_,?_⟩
    ·have UX:=s4 _ _ (s1 _ _ hg);refine⟨_,rfl,g,rfl,⟨_, .of UX⟩,fun D hD=>?_⟩;refine vz (xs:=c.ys.map V.str) (fun j ys bD H5=>(∃w1 w2,bD=[w1,w2,some (.int i),some (.ref d),some (.ref t),some (.str wx)])∧ys=cY j (ju c shut i)∧H5 D=some (.lst ys)∧ax H4 H5) ⟨⟨_,_,rfl⟩,rfl,ae,ax.upd hD⟩ ?_ ?_ ?_
     ·rintro j ys bD H5 _ ⟨_,_,_,s5⟩;exact .of (s5 _ _ UX)
     ·rintro j y T2 ys bD H5 hy ⟨⟨w1,w2,rfl⟩,rfl,FX,s5⟩ Oj;obtain⟨wy,Dr,rfl⟩:=mh hy;have hj:j<c.ys.length:=(Y' Dr).1;have s6:ax H4 (upd H5 T2 (.tup [.int j, .str wy])):=s5.trans (ax.upd Oj);have OB:=ax.upd (o:= .tup [.int j, .str wy]) Oj _ _ FX;refine⟨T2,_,rfl, .of ae,rfl,_,_,rfl,_,_,rfl,rfl,?_⟩;generalize upd H5 T2 (.tup [.int j, .str wy])=H6 at s6 OB;refine wg ?_;refine⟨_,rfl,_,rfl,aE Zu,fun p hp=>?_⟩;have s7:=s6.trans (ax.upd (o:= .tup [.int (i:Int), .int (j:Int)]) hp);have sA:=s4.trans s7;have Md:=ax.upd (o:= .tup [.int (i:Int), .int (j:Int)]) hp _ _ OB;have len:(cY j (ju c shut i)).length<sizeLine:=bf (by rw[cZ];omega);have sn:∀u,u=ju c shut i j→cY j (ju c shut i)++[bA u]=cY (j+1) (ju c shut i):=fun u e=>by rw[qm,e]
      have Ss:c.pw ((i:Int),(j:Int))=dB c.same c.fs wx wy:=Case.pw_of (by rw[sT];exact Qb) (by rw[sT];exact Dr);refine⟨_,rfl,d,_,rfl, .t (k:=a_ ((i:Int),(j:Int))) (sA _ _ XC) ae,_,rfl,?_⟩;rw[hS];refine a9 (fun h1=>?_) (fun h1=>?_)
      ·have h1:((i:Int),(j:Int))∈shut:=by simpa using h1
       refine⟨Md,len,⟨_,_,rfl⟩,?_,ae,s7.ft hD⟩;exact sn none (by simp[ju,n8,h1])
      ·have h1:((i:Int),(j:Int))∉shut:=by simpa using h1
       obtain⟨n,dx,l,dd,vs,T1,e1,e2,e3,e4⟩:=(TF.keep s1).keep sA;refine⟨_,rfl,t,dx,_,rfl,T1.ob,wt n l dd,_,rfl,_,rfl,t,wx,wy,n,c.fs,dx,l,dd,vs,rfl,T1,fun H8 s8=>?_⟩;refine⟨s8 _ _ Md,len,⟨_,_,rfl⟩,?_,ae,(s7.trans s8).ft hD⟩;exact sn _ (by simp[ju,n8,h1,Ss,e1])
     ·rintro ys bD H5 ⟨_,rfl,FX,s5⟩;rw[ly]at FX;exact⟨D,rfl,s5,hD,FX⟩
    rintro σ H5 ⟨r,rfl,s5,rz,Su⟩;have UY:r≠e:=Ne.symm (aD Qc rz);have hlen:=Qd.len;refine⟨_,rfl, .inl ⟨rfl,_, .of (s5 _ _ Qc)⟩,_,rfl,e,_,_,rfl,rfl,s5 _ _ Qc,bf (by rw[List.length_map];omega),⟨_,_,_,rfl⟩,(s4.trans s5).ft IS,as++[r],by rw[ae];simp,⟨by simp[hlen],fun k a hk=>?_⟩,fun a ha=>?_,List.nodup_append.mpr ⟨FR,ZD,fun x hx y hy e9=>?_⟩⟩
    ·by_cases h:k<i
     ·rw[List.getElem?_append_left Zw]at hk;rw[ak (hn a (Zk hk)).2];exact s5 _ _ (Qd.row k a hk)
     ·rw[List.getElem?_append_right Zw]at hk;have wO:k-as.length=0:=by
       have:=(Y' hk).1;simp at this;omega
      rw[wO]at hk;have:r=a:=by simpa using hk
      subst this;rw[ak UY];have:k=i:=Zz;rw[this];exact Su
    ·rcases List.mem_append.mp ha with ha|ha
     ·exact hn a ha
     ·have:a=r:=by simpa using ha
      rw[this];exact⟨s4.free rz,UY⟩
    ·have hy:y=r:=by simpa using hy
     obtain⟨k,hk,ek⟩:=List.mem_iff_getElem.mp hx;have:=Qd.row k x (by rw[List.getElem?_eq_getElem hk,ek]);rw[e9,hy,rz]at this;cases this
   ·rintro σ H' ⟨⟨u1,u2,u3,rfl⟩,s3,as,FV,TA,hn,FR⟩;rw[lx]at TA;exact⟨⟨_,_,_,rfl⟩,s3,as,FV,TA,hn,FR⟩
  rintro σ H3 ⟨⟨u1,u2,u3,rfl⟩,s3,as,FV,TA,hn,FR⟩;exact⟨_,rfl,q H3 e as (s1.trans s3) FV (s1.free IS) TA FR (fun z=>(hn e z).2 rfl) fun a ha=>s1.free (hn a ha).1⟩
variable(mD:mQ P w K mg base true 4 "Trails" aA ["self","worths","terms"] [] (qw aA aU))
variable(hG:bK P w K mg base true 5 "best_groups" ["trails","worth"] (Ap aA))
variable(gv:bK P w K mg base true 6 "make_finding" ["trails","worth","pairs"] (Al aA ay))
theorem jW:aK ["worths","terms","trails","worth"] ["worths","terms"] (au gk):=⟨rfl,rfl,rfl,by decide+kernel,rfl,by decide+kernel,by decide+kernel⟩
include T Tc ff Rc mD hG gv in
theorem uC{f:Addr}{fd:FuncData}(F:jn K "make_round" "make_round" gk f fd):aZ P w K mg base (cV P w) true 7 f fd ["worths","terms"] (oW aU ay):=by
 refine F.gK jW Zv (fun bR A outer s H vs Q E hr h hX=>?_)
 ·obtain⟨w,t,as,c,f,n,m,rfl,_⟩:=h;rfl
 ·obtain⟨w,t,as,c,f1,n,m,rfl,hw,TA,TF,IT,UW,hn,hm,q0,q1⟩:=h;refine⟨_,(Zl (@aG _ _ (2) _ _ _ _ jW.nd Zy (Or.inr rfl) (@sf _ _ _ _ _ _ _ _ _ _ _ _ _ _ mD (hr.mono (ZA)) hX.pass (Y8 (pv 0) (Y4 (pv 1))) (ZC) (ZA) (ZC) (ZC)) (ZC) (by exact .inl rfl)) (Zl (@aG _ _ (3) _ _ _ _ jW.nd Zy (Or.inr rfl) (Y5 ff aQ (Y4 (@oF _ _ _ _ _ _ _ _ _ _ _ _ _ _ (by exact rfl) (show bB ["worths","terms","trails","worth"] (au gk) _ ["row"] [] []from⟨rfl,by decide+kernel,by decide+kernel,by decide+kernel,rfl,rfl,by decide+kernel,by decide+kernel,by decide+kernel⟩) (@bg _ K _ _ _ (Y_ K (pv 2)) (ZC)) (fun _ _ _ _ _=>(Y6 (0) (show(["row"]:List Str).Nodup by decide+kernel))) (fun _ _ _ _ _=>jo) (fun _ _ _ _ _=>(Y5 ff aQ (Y4 (pv 0)))) (by intro _;rfl)))) (ZC) (by exact .inl rfl)) (Zl (Zj (@PW.pt _ _ _ (@pw_or _ _ _ _ _ _ _ (Zf (@lz _ _ _ _ _ (pv 3))) (@pw_or1 _ _ _ _ (Zo mP (pv 3) (Y_ K (pv 1)) (aV _))))) (Zh (Zs (@bI _ _ _ _ ai))) aP) (Zh (Zs (@oF _ _ _ _ _ _ _ _ _ _ _ _ _ _ (by exact rfl) (show bB ["worths","terms","trails","worth"] (au gk) _ ["pairs"] [2,3] ["trails","worth"]from⟨rfl,by decide+kernel,by decide+kernel,by decide+kernel,rfl,rfl,by decide+kernel,by decide+kernel,by decide+kernel⟩) (@bg _ K _ _ _ (Y5 hG aQ (Y8 (pv 2) (Y4 (pv 3)))) (ZC)) (fun _ _ _ _ _=>(Y6 (0) (show(["pairs","trails","worth"]:List Str).Nodup by decide+kernel))) (fun _ _ _ _ _=>jo) (fun _ _ _ _ _=>(Y5 gv aQ (Y8 (pv 1) (Y8 (pv 2) (Y4 (pv 0)))))) (by intro _;rfl))))))),?_⟩;refine⟨fun σ H1=>∃x dx e b es,σ=[some (.ref w),some (.ref t),some (.ref x),none]∧ax H H1∧H1 x=some (.ins aA dx (gM c.out c.into e b))∧H1 e=some (.lst (es.map V.ref))∧i7 H1 es (dC f1 c.out c.into) n m∧(0<n→∃bs,qv H1 aA x dx e b es bs f1 c.out c.into n m),?_,?_⟩
  ·refine⟨_,rfl,_,rfl,fun x dx hx Ep eR=>?_⟩;have s5:ax H (upd (upd H dx (.own x)) x (.ins aA dx [])):=(ax.upd Ep).ft hx;refine⟨x,dx,w,t,c,as,f1,n,m,rfl,ae,by rw[ak eR];exact ae,s5 _ _ hw,TA.same s5,TF.keep s5,hn,hm,fun H6 e b sb UZ Te Tb=>?_⟩;obtain⟨es,he,_,TE,_⟩:=Te;refine⟨rfl,x,dx,e,b,es,rfl,SameBut.ZI hx Ep sb,UZ,he,TE,fun h=>?_⟩;obtain⟨bs,hb,_,XD,_⟩:=Tb h;exact⟨bs,UZ,he,TE,hb,XD⟩
  rintro σ H1 ⟨x,dx,e,b,es,rfl,s1,lg,Az,TE,XE⟩;have Hv:es.length=n:=TE.len;refine⟨fun σ H2=>σ=[some (.ref w),some (.ref t),some (.ref x),some (bA (Hi f1 c.out c.into n m))]∧ax H1 H2,?_,?_⟩
  ·refine⟨_,rfl,x,aA,dx,_,_,rfl,lg,Rc.cl,Rc.kD,ig c.out c.into e b,e,rfl,⟨_, .of Az⟩,fun D hD=>?_⟩;refine iU (xs:=es.map V.ref) (fun k ys bD H'=>(∃u,bD=[u])∧ys=((List.range k).map fun i=>bA (oK ((List.range m).map (dC f1 c.out c.into i))))∧H' D=some (.lst ys)∧ax H1 H') ⟨⟨_,rfl⟩,rfl,ae,ax.upd hD⟩ ?_ ?_ ?_
   ·rintro k ys bD H' _ ⟨_,_,_,s2⟩;exact .of (s2 _ _ Az)
   ·rintro k v ys bD H' hv ⟨⟨u,rfl⟩,rfl,rP,s2⟩;have hk:k<n:=by rw[←Hv];have:=(Y' hv).1;simpa using this
    obtain⟨rb,g1,g2,g3⟩:=TE.at hk;rw[hv]at g2;cases g2;refine sN ?_;refine⟨_,rfl,rb,(List.range m).map (dC f1 c.out c.into k),rfl,?_,by simpa using hm,fun Px s3=>?_⟩
    ·rw[s2 _ _ g3,List.map_map];rfl
    ·refine⟨s3 _ _ rP,bf (by simp;omega),⟨_,rfl⟩,?_,ae,(s2.trans s3).ft hD⟩;rw[List.range_succ,List.map_append];rfl
   ·rintro ys bD H' ⟨_,rfl,rP,s2⟩;rw[List.length_map,Hv]at rP;refine⟨D,(List.range n).map fun i=>oK ((List.range m).map (dC f1 c.out c.into i)),rfl,by rw[rP,List.map_map];rfl,by simpa using hn,fun Px s3=>⟨rfl,s2.trans s3⟩⟩
  rintro σ H2 ⟨rfl,s2⟩;have I_:=s1.trans s2;obtain⟨nu,dt,l,d,vs,TM,z1,z2,z3,z4⟩:=TF.keep I_;have MX:=Fn IT c.out c.into;refine⟨fun σ H3=>∃W,Hi f1 c.out c.into n m=some W∧c.least≤W∧σ=[some (.ref w),some (.ref t),some (.ref x),some (.int W)]∧H3=H2,?_,?_⟩
  ·refine⟨_,rfl,_,rfl,?_⟩;cases eT:Hi f1 c.out c.into n m with
   |none=>
    rw[eT]at MX;refine jP ?_;refine jP ?_;exact⟨aE Zu,fun r rz=>q0 (fun ps hp=>absurd ⟨ps,hp,rfl⟩ (MX _)) _ r (I_.trans (ax.upd rz)) (I_.free rz) ae⟩
   |some W=>
    rw[eT]at MX;refine a9 (fun hh=>absurd hh (by simp[bA])) (fun _=>?_);refine⟨_,rfl,_,rfl,t,aU,dt,_,_,rfl,TM.ob,Tc.cl,Tc.least,GC nu l d,_,_,rfl,rfl,_,rfl,?_⟩;refine a9 (fun hh=>?_) (fun hh=>?_)
    ·have hh:W<nu.least:=by simpa using hh
     rw[z4]at hh;exact⟨aE Zu,fun r rz=>q0 (fun ps hp=>by have:=MX.2 _ ⟨ps,hp,rfl⟩;omega) _ r (I_.trans (ax.upd rz)) (I_.free rz) ae⟩
    ·have hh:¬W<nu.least:=by simpa using hh
     rw[z4]at hh;exact⟨W,rfl,Zz,rfl,rfl⟩
  rintro σ H2 ⟨W,eT,hle,rfl,rfl⟩;rw[eT]at MX;obtain⟨U0,w0,U1⟩:=MX.1;have TP:dQ f1 c.out c.into W:=fun ps hp=>MX.2 _ ⟨ps,hp,rfl⟩
  have R_:0<n:=by
   obtain⟨i,j,_,hi,_⟩:=jS IT w0 (c_ w0.ne);omega
  obtain⟨bs,TR⟩:=XE R_;have U2:=TR.keep s2;refine⟨_,rfl,_,rfl,x,dx,e,b,es,bs,f1,c.out,c.into,n,m,W,rfl,U2,IT,UW,hn,hm,TP,fun H3 r us gs s3 rz xf W3 LN TD=>?_⟩;have HE:∀g∈gs,∀a∈g,∃i j:Nat,a=aR (i,j)∧i<n∧j<m:=fun g hg a ha=>by
   obtain⟨ps,wp,hm⟩:=(TD.mem hg ha).on;exact jS IT wp.1 hm
  have rh:∀g∈gs,g.length≤n*m:=fun g hg=>by
   have:=len_sub g (ux n m) ((TD.qu g hg).imp fun{a b} h e=>by
    rw[e]at h;unfold jw at h;simp at h) fun a ha=>by
    obtain⟨i,j,rfl,hi,hj⟩:=HE g hg a ha;exact oV hi hj
   rw[oU]at this;exact this
  have DT:=TD.sI HE;have Sx:gs≠[]:=fun z=>by
   obtain⟨i,j,h1,_⟩:=jS IT w0 (c_ w0.ne);obtain⟨g,hg,_⟩:=TD.all _ (gL.way U0 ⟨w0,U1.symm⟩ (c_ w0.ne) (c_ w0.ne));rw[z]at hg;cases hg
  have hW:=W3.1;refine⟨r,rfl,⟨_, .of xf⟩,fun D hD=>?_⟩;refine iU (xs:=us) (fun k ys bD H'=>(∃u,bD=[u,some (.ref x),some (.int W)])∧H' D=some (.lst ys)∧ax H3 H'∧∃ds,cb (fun b=>H2 b=none∧b≠D) H' ay ys ds∧ds.map Fd.pairs=gs.take k∧∀d∈ds,N9 f1 c.out c.into W d) ⟨⟨_,rfl⟩,ae,ax.upd hD,[], .nil,rfl,fun d h=>(by cases h)⟩ ?_ ?_ ?_
  ·rintro k ys bD H' _ ⟨_,_,s4,_⟩;exact .of (s4 _ _ xf)
  ·rintro k v ys bD H' hv ⟨⟨u,rfl⟩,Ja,s4,ds,F4,OC,bX⟩;have hk:k<gs.length:=by rw[←hW];exact(Y' hv).1
   have ek:gs[k]?=some gs[k]:=by simp[hk]
   have i8:gs[k]∈gs:=List.getElem_mem hk;generalize gs[k]=g at ek i8;obtain⟨pa,U3,k1,k2,k3⟩:=W3.2 k g ek;rw[hv]at k1;cases k1;have Sy:=LN k pa hv;have OD:pa≠D:=fun z=>by rw[z,hD]at k2;cases k2
   obtain⟨gn,OE⟩:∃gn:List (Nat×Nat),g=gn.map aR:=by
    refine⟨g.map fun a=>(a.1.toNat,a.2.toNat),?_⟩;rw[List.map_map]
    conv=>lhs;rw[←List.map_id g]
    apply List.map_congr_left;intro a ha;obtain⟨i,j,rfl,_⟩:=HE g i8 a ha;simp[aR]
   obtain⟨i0,j0,z5,z6,z7,z8⟩:∃i j:Nat,dC f1 c.out c.into i j=some W∧i<n∧j<m∧aR (i,j)∈g:=by
    obtain⟨a,ha⟩:=List.exists_mem_of_ne_nil _ (TD.ne g i8);obtain⟨i,j,h1,h2,h3,h4⟩:=CI TP IT (TD.mem i8 ha);exact⟨i,j,h1,h2,h3,(TD.cls g i8 a ha _).mpr h4⟩
   have Sz:gn.filter (fun q=>decide (dC f1 c.out c.into q.1 q.2=some W))≠[]:=fun z=>by
    rw[OE]at z8;obtain⟨q9,XF,e9⟩:=List.mem_map.mp z8;obtain⟨XG,XH⟩:=iH (a:=q9.1) (b:=q9.2) e9;have:q9∈gn.filter (fun q=>decide (dC f1 c.out c.into q.1 q.2=some W)):=List.mem_filter.mpr ⟨XF,by rw[XG,XH];simpa using z5⟩;rw[z]at this;cases this
   obtain⟨tT,Hy⟩:∃q0,(gn.filter fun q=>decide (dC f1 c.out c.into q.1 q.2=some W))[0]?=some q0:=by
    cases e9:gn.filter (fun q=>decide (dC f1 c.out c.into q.1 q.2=some W))with
    |nil=>exact absurd e9 Sz
    |cons a r=>exact⟨a,rfl⟩
   have OF:=List.mem_filter.mp (Zk Hy);have SA:dC f1 c.out c.into tT.1 tT.2=some W:=by simpa using OF.2
   have XI:=U2.keep (s3.trans s4);refine sN ?_;refine⟨_,rfl,_,rfl,_,rfl,x,dx,e,b,es,bs,f1,c.out,c.into,n,m,W,pa,U3,gn,tT,rfl,XI,s4 _ _ k2,by rw[←OE];exact k3.same s4,fun q hq=>?_,Hy,hn,?_,fun H5 y dy wy rw ik s5 hy Lp Dr SD XJ XM SE P5 Su=>?_⟩
   ·have:aR q∈g:=by rw[OE];exact List.mem_map.mpr ⟨q,hq,rfl⟩
    obtain⟨i,j,h1,h2,h3⟩:=HE g i8 _ this;obtain⟨h4,h5⟩:=iH (a:=q.1) (b:=q.2) h1;omega
   ·have:=rh g i8;rw[OE,List.length_map]at this;omega
   ·obtain⟨v1,v2,v3,v4⟩:=Hh f1 c.out c.into tT.1 tT.1 tT.2 W (Nat.le_refl _) SA;have YR:=F4.1;have XN:ds.length=k:=by
     have:=congrArg List.length OC;rw[List.length_map,List.length_take]at this;omega
    have nD:∀{z},H' z=none→z≠D:=fun h z=>by rw[z,Ja]at h;cases h
    have SF:ax H2 H':=s3.trans s4;refine⟨s5 _ _ Ja,bf Zw,⟨_,rfl⟩,ae,(s4.trans s5).ft hD,ds++[⟨W,(eG f1 c.out c.into tT.1 tT.1 tT.2).map aR,Z6 (lf f1) c.out c.into ((eG f1 c.out c.into tT.1 tT.1 tT.2).map aR),g⟩],?_,?_,fun d hd=>?_⟩
    ·refine cb.append (F4.keep (fun b o hb e=>by rw[ak hb.2];exact s5 _ _ e) (fun a v e=>by rw[ak (fun z=>by rw[z,Ja]at e;cases e)];exact s5 _ _ e) fun _ h=>h) ⟨rfl,fun k9 d9 e9=>?_⟩;have XO:k9=0:=by
      have:=(Y' e9).1;simp at this;omega
     subst XO;have e9:=(Zt e9).symm;subst e9;have T5:dG H5 (upd H5 D (.lst (ys++[.ref y]))):=dG.lst (s5 _ _ Ja);refine⟨y,dy,wy,rw,pa,ik,U3,rfl,⟨by rw[ak (nD hy)];exact XJ,by rw[ak (nD Dr)];exact SE,P5.cD T5,?_,by rw[ak OD];exact s5 _ _ (s4 _ _ k2),((k3.same s4).same s5).cD T5,⟨SF.free hy,nD hy⟩,⟨SF.free Dr,nD Dr⟩,⟨SF.free SD,nD SD⟩,⟨Sy,OD⟩⟩⟩;rw[ak (nD SD),Su]
     congr 2
     have:=congrArg (List.map bA) v4;rw[List.map_map,List.map_map]at this;exact this
    ·rw[List.map_append,OC,List.take_succ,ek];rfl
    ·rcases List.mem_append.mp hd with hd|hd
     ·exact bX d hd
     ·have:d=⟨W,(eG f1 c.out c.into tT.1 tT.1 tT.2).map aR,Z6 (lf f1) c.out c.into ((eG f1 c.out c.into tT.1 tT.1 tT.2).map aR),g⟩:=by simpa using hd
      subst this;refine⟨rfl,⟨v1,v3⟩,rfl,fun q hq=>?_⟩;have Oz:aR tT∈g:=by rw[OE];exact List.mem_map.mpr ⟨_,OF.1,rfl⟩
      have v2:lstP ((eG f1 c.out c.into tT.1 tT.1 tT.2).map aR)=aR tT:=v2;exact(TD.cls g i8 _ Oz q).mpr (.way _ ⟨v1,v3⟩ (by rw[←v2];exact c_ v1.ne) hq)
  ·rintro ys bD H' ⟨_,Ja,s4,ds,F4,OC,bX⟩;rw[hW,List.take_length]at OC;have sA:=I_.trans (s3.trans s4);exact q1 W gs ds ⟨TP,⟨U0,w0,U1.symm⟩,hle,TD,OC,bX⟩ Sx _ D ys sA ((I_.trans s3).free hD) Ja (F4.keep (fun _ _ _ h=>h) (fun _ _ h=>h) fun b hb=>I_.free hb.1)
theorem hJ:aK ["worths","findings","finding","i","j"] ["worths","findings"] (au kI):=⟨rfl,rfl,rfl,by decide+kernel,rfl,by decide+kernel,by decide+kernel⟩
include T Fc in
theorem uD{f:Addr}{fd:FuncData}(F:jn K "shut_pairs" "shut_pairs" kI f fd):aZ P w K mg base (cV P w) true 1 f fd ["worths","findings"] (tJ ay):=by
 refine F.gK hJ Zv (fun bR A outer s H vs Q E hr h hX=>?_)
 ·obtain⟨w,md,as,us,ds,f,n,m,rfl,_⟩:=h;rfl
 ·obtain⟨w,md,as,us,ds,f1,n,m,rfl,hw,NW,nw,TA,U4,XQ,FL,n6,q⟩:=h;refine⟨_,(Zh (@bG _ _ _ _ _ _ _ _ hX.own Zy (@bg _ K _ _ _ (pv 1) (ZC)) (Y6 (2) hJ.nd) (Zh (@bG _ _ _ _ _ _ _ _ hX.own Zy (@bg _ K _ _ _ (Y_ K (pv 2)) (ZC)) (@f_ _ K _ _ _ (2) _ (by exact rfl) (@bb _ _ _ _ _ (Y6 (3) hJ.nd) (@bb _ _ _ _ _ (Y6 (4) hJ.nd) f7 (ZC)) (ZC)) (ZC) (ZC) (ZC)) (Zh (@ZM _ _ _ _ _ _ jO (@JC _ _ _ _ _ _ _ (Y7 (pv 0) (pv 3)) (pv 4) set_list (by intro _;rfl)) (ZC) (ZC) (ZC))) (by intro _;rfl))) (by intro _;rfl))),?_⟩;have rows:∀a∈as,∃xs,H a=some (.lst xs):=fun a ha=>by
   obtain⟨k,hk,ek⟩:=List.mem_iff_getElem.mp ha;exact⟨_,TA.row k a (by rw[List.getElem?_eq_getElem hk,ek])⟩
  have cD:∀H',(∀b o,b∉as→H b=some o→H' b=some o)→dG H H':=fun H' k t v e=>k t _ (fun z=>by
   obtain⟨xs,h⟩:=rows t z;rw[e]at h;cases h) e
  have hlen:=FL.1;refine⟨_,rfl,md,rfl,⟨_, .of U4⟩,?_⟩;refine bU (xs:=us) (fun k σ H1=>(∃u1 u2 u3,σ=[some (.ref w),some (.ref md),u1,u2,u3])∧(∀b o,b∉as→H b=some o→H1 b=some o)∧i7 H1 as (fE f1 ((ds.take k).map Fd.pairs).flatten) n m) ⟨⟨_,_,_,rfl⟩,fun _ _ _ h=>h,TA⟩ ?_ ?_ ?_
  ·rintro k σ H1 _ ⟨_,k1,_⟩;exact .of (k1 _ _ XQ U4)
  ·rintro k v σ H1 hv ⟨⟨u1,u2,u3,rfl⟩,k1,T1⟩;have hk:k<ds.length:=by rw[←hlen];exact(Y' hv).1
   have ek:ds[k]?=some ds[k]:=by simp[hk]
   have i8:ds[k]∈ds:=List.getElem_mem hk;generalize ds[k]=d at ek i8;obtain⟨a,dy,wy,ic,pr,kZ,ik,e1,F⟩:=FL.2 k d ek;rw[hv]at e1;cases e1;have sJ:=F.pp.1;have et:((ds.take (k+1)).map Fd.pairs).flatten=((ds.take k).map Fd.pairs).flatten++d.pairs:=by
    rw[List.take_succ,ek,List.map_append,List.flatten_append];simp
   refine⟨_,rfl,a,ay,dy,_,_,rfl,k1 _ _ F.fa F.ob,Fc.cl,Fc.pairs,ij d.worth wy ic pr,pr,rfl,⟨_, .of (k1 _ _ F.fp F.hp)⟩,?_⟩;refine bU (xs:=ik) (fun l σ H2=>(∃u2 u3,σ=[some (.ref w),some (.ref md),some (.ref a),u2,u3])∧(∀b o,b∉as→H b=some o→H2 b=some o)∧i7 H2 as (fE f1 (((ds.take k).map Fd.pairs).flatten++d.pairs.take l)) n m) ⟨⟨_,_,rfl⟩,k1,by simpa using T1⟩ ?_ ?_ ?_
   ·rintro l σ H2 _ ⟨_,k2,_⟩;exact .of (k2 _ _ F.fp F.hp)
   ·rintro l v σ H2 Qe ⟨⟨v2,v3,rfl⟩,k2,T2⟩;have hl:l<d.pairs.length:=by rw[←sJ];exact(Y' Qe).1
    have el:d.pairs[l]?=some d.pairs[l]:=by simp[hl]
    have hq:=n6 d i8 d.pairs[l] (List.getElem_mem hl);generalize d.pairs[l]=g at el hq;obtain⟨i,j,rfl,hi,hj⟩:=hq;obtain⟨t,g1,g2⟩:=F.pp.2 l _ el;rw[Qe]at g1;cases g1;have kt:=cD H2 k2 _ _ g2;refine⟨t,_,rfl, .of kt,rfl,_,_,rfl,_,_,rfl,rfl,?_⟩;obtain⟨ra,r1,r2,r3⟩:=T2.at hi;have PN:ra∈as:=Zk r1;refine⟨_,rfl,_,rfl,w,_,_,_,rfl,rfl, .of (k2 _ _ nw hw),ar r2,_,rfl,ra,_,_,j,rfl,rfl,r3,GG (by rw[cZ];exact hj),⟨_,_,rfl⟩,fun b o hb e=>?_,⟨T2.len,fun x b hb=>?_⟩⟩
    ·rw[ak (fun z=>hb (by rw[z];exact PN))];exact k2 b o hb e
    ·have U5:d.pairs.take (l+1)=d.pairs.take l++[aR (i,j)]:=by rw[List.take_succ,el];rfl
     by_cases e:b=ra
     ·have ex:x=i:=by
       obtain⟨h1,e1⟩:=Y' hb;obtain⟨h2,e2⟩:=Y' r1;exact(List.getElem_inj NW).mp (by rw[e1,e2,e])
      subst ex e;rw[ae];show some (HO.lst ((cY m _).set j (bA none)))=_;rw[Ey]
      congr 2
      unfold cY;apply List.map_congr_left;intro y _;unfold fE;rw[U5,←List.append_assoc]
      congr 1
      dsimp only;by_cases ey:y=j
      ·subst ey;rw[if_pos rfl,if_pos Zu]
      ·rw[Zm ey];have:¬aR (x,y)=aR (x,j):=fun z=>ey (iH z).2
       simp[this]
     ·rw[ak e,T2.row x b hb]
      congr 2
      unfold cY;apply List.map_congr_left;intro y _;unfold fE;rw[U5,←List.append_assoc];have:¬aR (x,y)=aR (i,j):=fun z=>by
       have hk:=(iH z).1;subst hk;rw[r1]at hb;exact e (Zt hb).symm
      simp[this]
   ·rintro σ H2 ⟨⟨v2,v3,rfl⟩,k2,T2⟩;rw[sJ,List.take_length]at T2;exact⟨⟨_,_,_,rfl⟩,k2,by rw[et];exact T2⟩
  ·rintro σ H1 ⟨_,k1,T1⟩;rw[hlen,List.take_length]at T1;exact q H1 k1 (cD H1 k1) T1
variable(ed:DE mg "FINDINGS_MOST" (.int 20))
variable(hU:bK P w K mg base true 2 "open_worths" ["first","second","terms","taken"] (tI aU))
variable(gw:bK P w K mg base true 7 "make_round" ["worths","terms"] (oW aU ay))
variable(iO:bK P w K mg base true 1 "shut_pairs" ["worths","findings"] (tJ ay))
variable(kQ:bK P w K mg base true 1 "order_of" ["finding"] (tm ay))
variable(kg:Er K mg "TooMany" ka)
theorem jd:aK ["first","second","terms","worths","findings","made"] ["first","second","terms"] (au qE):=⟨rfl,rfl,rfl,by decide+kernel,rfl,by decide+kernel,by decide+kernel⟩
include T jc ed hU gw iO kQ kg in
theorem AD{f:Addr}{fd:FuncData}(F:jn K "compare" "compare" qE f fd):aZ P w K mg base (cV P w) true 8 f fd ["first","second","terms"] (w9 aU ay ka):=by
 refine F.gK jd Zv (fun bR A outer s H vs Q E hr h hX=>?_)
 ·obtain⟨a,b,t,c,rfl,_⟩:=h;rfl
 ·obtain⟨a,b,t,c,rfl,ha,hb,TF,hx,hy,q1,q2⟩:=h;refine⟨_,(Zl (Y3 (3) jd.nd (Y5 hU aQ (Y8 (pv 0) (Y8 (pv 1) (Y8 (pv 2) (Y4 jO)))))) (Zl (Y3 (4) jd.nd (@bI _ _ _ _ ai)) (Zl (Y3 (5) jd.nd (Y5 gw aQ (Y8 (pv 3) (Y4 (pv 2))))) (Zl (@sr _ _ _ _ _ _ hX.own (Zo oh (Y9 (aJ K) T.cP (Y4 (pv 5))) af (aV _)) (Zl (@a8 _ _ _ _ (Zd K PySem.F.plainAttrs_list PySem.F.slot_list_extend PySem.F.type_list_extend vm (pv 4) (Y4 (pv 5))) (ZC)) (Zl (Zj (Zo oh (Y9 (aJ K) T.cP (Y4 (pv 4))) (@fI _ _ _ _ ed (ZC) (ZA)) (aV _)) (Zh (@i5 _ _ _ _ _ _ _ _ _ _ hX Zy (by exact rfl) kg.m kg.e (Y4 (@ma _ _ _ _ _ _ (@fq _ _ _ _ _ dR (@fq _ _ _ _ _ (@qg _ _ _ _ (@fI _ _ _ _ ed (ZC) (ZA))) (@fq _ _ _ _ _ dR v_))))) (ZA) (ZC) (ZC))) aP) (Zl (@a8 _ _ _ _ (Y5 iO aQ (Y8 (pv 3) (Y4 (pv 5)))) (ZC)) (Zh (Y3 (5) jd.nd (Y5 gw aQ (Y8 (pv 3) (Y4 (pv 2)))))))))) (Zh (Zs (@EZ _ K _ _ _ _ _ _ _ _ _ _ _ kQ (hr.mono (ZA)) (pv 4) (by exact rfl) jc (ZC) (ZA) (ZC) (ZC)))))))),?_⟩;have Aa:c.xs.length*c.ys.length≤3000:=Nat.le_trans (Nat.mul_le_mul hx hy) (ZA);have SG:=Ki c [];refine⟨fun σ H1=>∃w as,σ=[some (.ref a),some (.ref b),some (.ref t),some (.ref w),none,none]∧ax H H1∧H1 w=some (.lst (as.map V.ref))∧i7 H1 as (ju c []) c.xs.length c.ys.length∧as.Nodup∧w∉as∧∀a∈as,H a=none,?_,?_⟩
  ·exact⟨_,rfl,_,rfl,_,rfl,a,b,t, .cN,c,[],rfl,ha,hb,TF, .inl ⟨rfl,rfl⟩,ZD,Zz,Zz,fun H1 w as s1 h1 _ h3 h4 h5 h6=>⟨w,as,rfl,s1,h1,h3,h4,h5,h6⟩⟩
  rintro σ H1 ⟨w,as,rfl,s1,rQ,SH,NW,nw,has⟩;refine⟨fun σ H2=>∃fl,σ=[some (.ref a),some (.ref b),some (.ref t),some (.ref w),some (.ref fl),none]∧ax H1 H2∧H1 fl=none∧H2 fl=some (.lst []),⟨aE Zu,fun fl h=>⟨fl,rfl,ax.upd h,h,ae⟩⟩,?_⟩;rintro σ H2 ⟨fl,rfl,s2,Ls,OG⟩;have alloc:∀x∈as,∃xs,H1 x=some (.lst xs):=fun x hx=>by
   obtain⟨k,hk,ek⟩:=List.mem_iff_getElem.mp hx;exact⟨_,SH.row k x (by rw[List.getElem?_eq_getElem hk,ek])⟩
  have U6:fl∉as:=fun z=>by
   obtain⟨xs,h⟩:=alloc fl z;rw[Ls]at h;cases h
  have HF:w≠fl:=aD rQ Ls;have rd:∀f H3,(∀x∈as,∃xs,H3 x=some (.lst xs))→H3 w=some (.lst (as.map V.ref))→i7 H3 as f c.xs.length c.ys.length→ax H H3→∀done,Reach (ju c []) c.out c.into c.least done f→∀(Q':VK)(E':XK),(∀H4 r,ax H3 H4→H3 r=none→∀us ds,H4 r=some (.lst us)→cb (fun b=>H3 b=none) H4 ay us ds→((us=[]∧ds=[]∧Stop f c.out c.into c.least)∨(us≠[]∧∃W gs,gX f c.out c.into c.least W gs ds))→Q' (.ref r) H4)→oW aU ay [.ref w, .ref t] H3 Q' E':=fun f H3 al h3 T3 s3 done RC Q' E' k=>by
   refine⟨w,t,as,c,f,_,_,rfl,h3,T3,TF.keep s3,RC.RY SG,Aa,Zz,Zz,fun st H4 r s4 h4 h5=>k H4 r s4 h4 [] [] h5 .nil (.inl ⟨rfl,rfl,st⟩),fun W gs ds R Sx H4 r us s4 h4 h5 FL=>k H4 r s4 h4 us ds h5 FL (.inr ⟨fun z=>Sx ?_,W,gs,R⟩)⟩;have:=FL.1;rw[z]at this;have:ds=[]:=List.length_eq_zero_iff.mp (by simpa using this.symm);rw[←R.CH,this];rfl
  have U7:∀b o,b∉as→b≠fl→H1 b=some o→H2 b=some o:=fun b o _ _ e=>s2 b o e
  have Me:=s1.trans s2;refine⟨fun σ H3=>∃md us ds,σ=[some (.ref a),some (.ref b),some (.ref t),some (.ref w),some (.ref fl),some (.ref md)]∧ax H2 H3∧H2 md=none∧H3 md=some (.lst us)∧cb (fun b=>H2 b=none) H3 ay us ds∧((us=[]∧ds=[]∧Stop (ju c []) c.out c.into c.least)∨(us≠[]∧∃W gs,gX (ju c []) c.out c.into c.least W gs ds)),?_,?_⟩
  ·exact⟨_,rfl,_,rfl,rd _ H2 (fun x hx=>let ⟨xs,h⟩:=alloc x hx;⟨xs,s2 _ _ h⟩) (s2 _ _ rQ) (SH.same s2) Me [] .start _ _ fun H4 r s4 h4 us ds h5 FL z=>⟨r,us,ds,rfl,s4,h4,h5,FL,z⟩⟩
  rintro σ H3 ⟨md,us,ds,rfl,s3,HH,SI,Qf,Z3⟩;refine⟨fun σ H5=>∃md ul es f,σ=[some (.ref a),some (.ref b),some (.ref t),some (.ref w),some (.ref fl),some (.ref md)]∧ax H H5∧H5 fl=some (.lst ul)∧cb (fun b=>H2 b=none) H5 ay ul es∧Reach (ju c []) c.out c.into c.least es f∧Stop f c.out c.into c.least∧es.length≤20,?_,?_⟩
  ·refine⟨fun mm σ H4=>∃md us ds ul es f,mm+es.length=20∧σ=[some (.ref a),some (.ref b),some (.ref t),some (.ref w),some (.ref fl),some (.ref md)]∧ax H H4∧(∀b o,b∉as→b≠fl→H2 b=some o→H4 b=some o)∧i7 H4 as f c.xs.length c.ys.length∧H4 fl=some (.lst ul)∧cb (fun b=>H2 b=none) H4 ay ul es∧Reach (ju c []) c.out c.into c.least es f∧H2 md=none∧H4 md=some (.lst us)∧cb (fun b=>H2 b=none) H4 ay us ds∧((us=[]∧ds=[]∧Stop f c.out c.into c.least)∨(us≠[]∧∃W gs,gX f c.out c.into c.least W gs ds)),⟨20,md,us,ds,[],[],ju c [],rfl,rfl,Me.trans s3,fun b o _ _ e=>s3 b o e,(SH.same s2).same s3,s3 _ _ OG, .nil, .start,HH,SI,Qf,Z3⟩,?_⟩;rintro mm σ H4 ⟨md,us,ds,ul,es,f1,YS,rfl,sH,k4,T4,HI,FE,RC,HH,Lu,FD,Z4⟩;have XR:∀x∈as,∃xs,H2 x=some (.lst xs):=fun x hx=>let ⟨xs,h⟩:=alloc x hx;⟨xs,s2 _ _ h⟩
   have P2:∀{b},H2 b=none→b∉as:=fun{b} h z=>by
    obtain⟨xs,h'⟩:=XR b z;rw[h]at h';cases h'
   have SJ:∀{b},H2 b=none→b≠fl:=fun{b} h z=>by rw[z,OG]at h;cases h
   have Qg:=FE.1;have YT:=FD.1;refine⟨_,rfl,md,_,rfl, .inl (.of Lu),_,_,rfl,rfl,_,rfl,?_⟩;refine a9 (fun hh=>?_) (fun hh=>?_)
   ·have hh:0<us.length:=by simpa using hh
    rcases Z4 with⟨z1,_,_⟩|⟨U8,W,gs,R⟩
    ·rw[z1]at hh;simp at hh
    have PU:ds.length≤c.xs.length*c.ys.length:=by
     have:=R.told.sI (n:=c.xs.length) (m:=c.ys.length) fun g hg q hq=>by
      obtain⟨ps,wp,hm⟩:=(R.told.mem hg hq).on;exact jS (RC.RY SG) wp.1 hm
     rw[←R.CH,List.length_map]at this;exact this
    refine⟨_,fun bD H' z=>z,?_⟩;have XS:md≠fl:=SJ HH;refine⟨fun σ H5=>σ=[some (.ref a),some (.ref b),some (.ref t),some (.ref w),some (.ref fl),some (.ref md)]∧H5=upd H4 fl (.lst (ul++us)),⟨_,rfl, .inl ⟨rfl,_, .of HI⟩,_,rfl,fl,md,ul,us,rfl,rfl,HI,Lu,aE Zw,rfl,rfl⟩,?_⟩;rintro σ H5 ⟨rfl,rfl⟩;have U9:ax H (upd H4 fl (.lst (ul++us))):=sH.ft (s1.free Ls);have U_:dG H4 (upd H4 fl (.lst (ul++us))):=dG.lst HI;have XT:cb (fun b=>H2 b=none) (upd H4 fl (.lst (ul++us))) ay ul es:=FE.keep (fun b o hb e=>by rw[ak (SJ hb)];exact e) U_ fun _ h=>h
    have U':cb (fun b=>H2 b=none) (upd H4 fl (.lst (ul++us))) ay us ds:=FD.keep (fun b o hb e=>by rw[ak (SJ hb)];exact e) U_ fun _ h=>h
    have SK:=RC.round R;refine⟨fun σ H6=>σ=[some (.ref a),some (.ref b),some (.ref t),some (.ref w),some (.ref fl),some (.ref md)]∧H6=upd H4 fl (.lst (ul++us))∧(es++ds).length≤20,?_,?_⟩
    ·refine⟨_,rfl,fl,_,rfl, .inl (.of ae),_,_,rfl,rfl,_,rfl,?_⟩;refine a9 (fun h9=>?_) (fun h9=>?_)
     ·have h9:20<(ul++us).length:=by
       have:(20:Int)<((ul++us).length:Nat):=by simpa using h9
       omega
      have:=q2 _ _ SK (by rw[List.length_append]at h9⊢;omega) _ U9;have z:(20:Int).natAbs.log2<1920∧(Str.ofString (toString (20:Int))).length≤6:=⟨ZA,by decide+kernel⟩
      have w1:(Str.ofString "there are at most ").length=18:=by decide+kernel
      have w2:(Str.ofString " findings between two books").length=27:=by decide+kernel
      have w3:=mf;refine⟨_,rfl,aE ?_, .inr ⟨20,rfl,z.1,_,rfl,aE ?_,_,rfl,aE ?_,aE ?_,ie,this⟩⟩;all_goals (simp only[len_app];omega)
     ·have h9:¬20<(ul++us).length:=by
       have:¬(20:Int)<((ul++us).length:Nat):=by simpa using h9
       omega
      exact⟨rfl,rfl,by rw[List.length_append]at h9⊢;omega⟩
    rintro σ H6 ⟨rfl,rfl,hle⟩;refine⟨fun σ H7=>σ=[some (.ref a),some (.ref b),some (.ref t),some (.ref w),some (.ref fl),some (.ref md)]∧(∀b o,b∉as→upd H4 fl (.lst (ul++us)) b=some o→H7 b=some o)∧dG (upd H4 fl (.lst (ul++us))) H7∧i7 H7 as (fE f1 gs.flatten) c.xs.length c.ys.length,?_,?_⟩
    ·refine⟨_,rfl,_,rfl,w,md,as,us,ds,f1,_,_,rfl,by rw[ak HF];exact k4 _ _ nw HF (s2 _ _ rQ),NW,nw,⟨T4.len,fun i x hx=>by rw[ak (fun z=>U6 (by rw[←z];exact Zk hx))];exact T4.row i x hx⟩,by rw[ak XS];exact Lu,P2 HH,U'.keep (fun _ _ _ h=>h) (fun _ _ h=>h) (fun _ h=>P2 h),fun d hd q hq=>?_,fun H7 k7 t7 T7=>⟨rfl,k7,t7,by rw[←R.CH];exact T7⟩⟩;have hg:d.pairs∈gs:=by rw[←R.CH];exact List.mem_map.mpr ⟨d,hd,rfl⟩
     obtain⟨ps,wp,hm⟩:=(R.told.mem hg hq).on;exact jS (RC.RY SG) wp.1 hm
    rintro σ H7 ⟨rfl,k7,t7,T7⟩;have Va:ax H H7:=fun b o e=>k7 b o (fun z=>by rw[has b z]at e;cases e) (U9 b o e)
    have Vc:∀x∈as,∃xs,H7 x=some (.lst xs):=fun x hx=>by
     obtain⟨k,hk,ek⟩:=List.mem_iff_getElem.mp hx;exact⟨_,T7.row k x (by rw[List.getElem?_eq_getElem hk,ek])⟩
    have w7:H7 w=some (.lst (as.map V.ref)):=k7 w _ nw (by rw[ak HF];exact k4 _ _ nw HF (s2 _ _ rQ));have F7:cb (fun b=>H2 b=none) H7 ay (ul++us) (es++ds):=(XT.append U').keep (fun b o hb e=>k7 b o (P2 hb) e) t7 fun _ h=>h
    have Ve:H7 fl=some (.lst (ul++us)):=k7 fl _ U6 ae;refine⟨_,rfl,_,rfl,rd _ H7 Vc w7 T7 Va _ SK _ _ fun H8 r s8 h8 XU XW XX XY Z8=>?_⟩;have Vf:∀b,H7 b=none→H2 b=none:=fun b h=>by
     cases e:H2 b with
     |none=>rfl
     |some o=>
      by_cases SM:b∈as
      ·obtain⟨xs,h'⟩:=Vc b SM;rw[h]at h';cases h'
      ·by_cases SN:b=fl
       ·rw[SN,Ve]at h;cases h
       ·rw[k7 b o SM (by rw[ak SN];exact k4 b o SM SN e)]at h;cases h
    refine⟨20-(es++ds).length,?_,r,XU,XW,ul++us,es++ds,_,Zz,rfl,Va.trans s8,fun b o h1 h2 e=>s8 b o (k7 b o h1 (by rw[ak h2];exact k4 b o h1 h2 e)),T7.same s8,s8 _ _ Ve,F7.keep (fun b o _ e=>s8 b o e) (dG.same s8) fun _ h=>h,SK,Vf r h8,XX,XY.keep (fun _ _ _ h=>h) (fun _ _ h=>h) fun b h=>Vf b h,Z8⟩;rw[List.length_append]at hle⊢;omega
   ·have hh:us.length=0:=by
     have:¬(0:Int)<(us.length:Nat):=by simpa using hh
     omega
    rcases Z4 with⟨_,_,z3⟩|⟨U8,_⟩
    ·exact⟨md,ul,es,f1,rfl,sH,HI,FE,RC,z3,Zz⟩
    ·exact absurd (List.length_eq_zero_iff.mp hh) U8
  rintro σ H5 ⟨md,ul,es,f1,rfl,sH,SO,FE,RC,ST,hle⟩;have Qg:=FE.1;have AP:=RC.apart;have OH:∀d∈es,la d.pairs∈d.pairs:=fun d hd=>by
   cases e:d.pairs with
   |nil=>exact absurd e (AP.qu d hd).2
   |cons a r=>simp[la]
  refine⟨_,rfl,fl,ul,es.map (fun d=>(-d.worth,la d.pairs)),rfl, .of SO,by rw[List.length_map];omega,?_,Zz,fun i v H6 hv s6=>?_,fun p H6 D hp hs s6 hD OB=>?_⟩
  ·refine List.pairwise_map.mpr (List.Pairwise.imp_of_mem (fun{x y} hx hy Aa e=>?_) AP.ap);have:=(Prod.mk.inj e).2;exact Aa _ (OH x hx) (by rw[this];exact OH y hy)
  ·have hi:i<es.length:=by rw[←Qg];exact(Y' hv).1
   have ei:es[i]?=some es[i]:=by simp[hi]
   have i8:es[i]∈es:=List.getElem_mem hi;have eg:(es.map fun d=>(-d.worth,la d.pairs)).getD i (0,(0,0))=(-es[i].worth,la es[i].pairs):=by simp[hi]
   rw[eg];generalize es[i]=d at ei i8;obtain⟨x,dy,wy,ic,pr,kZ,ik,e1,F⟩:=FE.2 i d ei;rw[hv]at e1;cases e1;exact⟨x,dy,wy,ic,pr,d.worth,ik,d.pairs,rfl,s6 _ _ F.ob,s6 _ _ F.hp,F.pp.same s6,(AP.qu d i8).2,fun H7 k t s7 hk ht=>⟨s7,k,t,rfl,hk,ht⟩⟩
  ·have rh:p.toList.Perm (List.range es.length):=by rw[←Qg];exact hp
   have Lv:∀i∈p.toList,i<es.length:=fun i hi=>by simpa using rh.mem_iff.mp hi
   have dflt:Fd:=⟨0,[],[],[]⟩
   refine q1 (p.toList.map fun i=>es.getD i dflt) ⟨⟨es,f1,RC,ST,?_⟩,?_,?_⟩ _ D _ ((sH.trans s6).ft (sH.free hD)) (sH.free hD) ae ?_
   ·have e1:(List.range es.length).map (fun i=>es.getD i dflt)=es:=by
     apply List.ext_getElem
     ·simp
     ·intro i h1 h2;simp[h2]
    have:=rh.map fun i=>es.getD i dflt
    rw[e1]at this;exact this
   ·rw[List.length_map,rh.length_eq,List.length_range];exact hle
   ·rw[List.pairwise_map,List.pairwise_iff_getElem];intro i j hi hj uh;have hsz:p.size=es.length:=by have:=rh.length_eq;simpa using this
    have:=hs i j uh (by rw[Qg,←hsz];simpa using hj);have g1:gd p i=p.toList[i]:=by rw[EB];simp at hi;simp[hi]
    have g2:gd p j=p.toList[j]:=by rw[EB];simp at hj;simp[hj]
    rw[g1,g2]at this;have l1:=Lv _ (List.getElem_mem hi);have l2:=Lv _ (List.getElem_mem hj);generalize p.toList[i]=x at this l1;generalize p.toList[j]=y at this l2;unfold kl ZE at this;unfold Lh;simp only[List.getD_eq_getElem?_getD,List.getElem?_map,List.getElem?_eq_getElem l1,List.getElem?_eq_getElem l2,Option.map_some,Option.getD_some]at this⊢;by_cases ew:es[x].worth=es[y].worth
    ·rw[Zp ew];rw[Zp (by rw[ew])]at this;exact this
    ·rw[Zm ew];rw[Zm (fun z=>ew Zw)]at this;simp at this⊢;omega
   ·refine⟨ZD,fun k d hk=>?_⟩;rw[List.getElem?_map]at hk;cases e:p.toList[k]? with
    |none=>rw[e]at hk;cases hk
    |some i=>
     rw[e]at hk;have hi:=Lv i (Zk e);have hd:es.getD i dflt=d:=by simpa using hk
     have ei:es[i]?=some d:=by rw[←hd];simp[hi]
     obtain⟨x,dy,wy,ic,pr,kZ,ik,e1,F⟩:=FE.2 i d ei;have nD:∀{b o},H5 b=some o→b≠D:=fun h z=>by rw[z,hD]at h;cases h
     refine⟨x,dy,wy,ic,pr,kZ,ik,?_,F.ob|>fun h=>⟨by rw[ak (nD h)];exact s6 _ _ h,by rw[ak (nD F.hw)];exact s6 _ _ F.hw,(F.pw.same s6).same (ax.upd OB),by rw[ak (nD F.hr)];exact s6 _ _ F.hr,by rw[ak (nD F.hp)];exact s6 _ _ F.hp,(F.pp.same s6).same (ax.upd OB),Me.free F.fa,Me.free F.fw,Me.free F.fr,Me.free F.fp⟩⟩;rw[List.getElem?_map,e];show some (ul.getD i .cN)=_;simp[e1]
theorem AE:aK ["_law_script","_law_k"] ["_law_script","_law_k"] (au qF):=⟨rfl,rfl,rfl,by decide+kernel,rfl,by decide+kernel,by decide+kernel⟩
include T in
theorem AF{f:Addr}{fd:FuncData}(F:jn K "_law_at" "_law_at" qF f fd):aZ P w K mg base (cV P w) true 1 f fd ["_law_script","_law_k"] (Ea K):=by
 refine F.gK AE Zv (fun bR A outer s H vs Q E hr h hX=>?_)
 ·obtain⟨a,ns,k,rfl,_⟩:=h;rfl
 ·obtain⟨a,ns,k,rfl,hS,h0,q⟩:=h;refine⟨_,(Ze (Zj (Zo mP (pv 1) (Y9 (aJ K) T.cP (Y4 (pv 0))) (aV _)) (Zh (Zs (Y7 (pv 0) (pv 1)))) aP) (Zh (Zs af))),?_⟩;refine⟨_,rfl,_,rfl,a,_,rfl, .inl hS,_,_,rfl,rfl,_,rfl,?_⟩;refine a9 (fun h=>?_) (fun h=>?_)
  ·have h:k<((ns.map V.int).length:Int):=by simpa using h
   rw[List.length_map]at h;exact⟨_,rfl,_,rfl,a,_,k,_,rfl,rfl,hS,GB h0 h,q⟩
  ·have h:¬k<((ns.map V.int).length:Int):=by simpa using h
   rw[List.length_map]at h;rw[cell_out h0 h]at q;exact q
theorem uE:aK ["_law_found"] ["_law_found"] (au kJ):=⟨rfl,rfl,rfl,by decide+kernel,rfl,by decide+kernel,by decide+kernel⟩
include T in
theorem uF{f:Addr}{fd:FuncData}(F:jn K "_law_whole" "_law_whole" kJ f fd):aZ P w K mg base (cV P w) true 1 f fd ["_law_found"] sQ:=by
 refine F.gK uE Zv (fun bR A outer s H vs Q E hr h hX=>?_)
 ·obtain⟨i,rfl,_⟩:=h;rfl
 ·obtain⟨i,rfl,q⟩:=h;refine⟨_,(Zh (Zs (@vS _ _ _ _ _ _ _ (Zi (fW K) T.cW PyProof.Rows.Boot.«isinstance» (Y8 (pv 0) (Y4 (@jl _ _ (.ty "int") _ _ (by exact rfl) T.Ba PyProof.Rows.Boot.«int» Zy (ZA) (ZA))))) (@vR _ _ _ _ _ (@Jy _ _ _ _ (Zi (fW K) T.cW PyProof.Rows.Boot.«isinstance» (Y8 (pv 0) (Y4 (@jl _ _ (.ty "bool") _ _ (by exact rfl) T.J9 PyProof.Rows.Boot.«bool» Zy (ZA) (ZA)))))))))),?_⟩;refine⟨_,rfl,_,_,_,true,_,rfl,rfl, .int i,rfl,_,rfl,?_⟩;refine jP ?_;exact⟨_,rfl,_,_,_,false,_,rfl,rfl, .int i,by kernel_rfl,_,rfl,q⟩
theorem bE:aK ["_law_cell","_law_other","_law_many","_law_letters","_law_stem","_law_rest","_law_k","_law_size","_law_found","_law_spot","_law_sign"] ["_law_cell","_law_other","_law_many"] (au lM):=⟨rfl,rfl,rfl,by decide+kernel,rfl,by decide+kernel,by decide+kernel⟩
include T in
theorem xg{f:Addr}{fd:FuncData}(F:jn K "_law_bank" "_law_bank" lM f fd):aZ P w K mg base (cV P w) true 1 f fd ["_law_cell","_law_other","_law_many"] wB:=by
 refine F.gK bE Zv (fun bR A outer s H vs Q E hr h hX=>?_)
 ·obtain⟨cell,other,many,rfl,_⟩:=h;rfl
 ·obtain⟨cell,other,many,rfl,SQ,hm,q⟩:=h;have YU:=GF;have Vg:(0:Int)<26:=ZA;have Vh:(0:Int)<12:=ZA;refine⟨_,(Ze (Y3 (3) bE.nd dR) (Ze (Y3 (4) bE.nd dR) (Ze (Y3 (5) bE.nd (Za dS (pv 0) af)) (Ze (@bG _ _ _ _ _ _ _ _ hX.own Zy (@eA _ _ _ _ _ _ (by exact rfl) T.fJ (Y4 af) (ZC)) (Y6 (6) bE.nd) (Ze (Y3 (4) bE.nd (Za m9 (pv 4) (Zr DR (pv 3) (Za bC (pv 5) af)))) (Zh (Y3 (5) bE.nd (Za dS (pv 5) af)))) (by intro _;rfl)) (Ze (Y3 (7) bE.nd (Za bp af (Za bC (Za dS (pv 0) af) af))) (Ze (Y3 (8) bE.nd (@bI _ _ _ _ ai)) (Ze (@bG _ _ _ _ _ _ _ _ hX.own Zy (@eA _ _ _ _ _ _ (by exact rfl) T.fJ (Y4 (pv 2)) (ZC)) (Y6 (6) bE.nd) (Zh (Zj (Zo jm (Za bC (pv 0) af) af (aV _)) (Zh (@a8 _ _ _ _ (Zd K PySem.F.plainAttrs_list PySem.F.slot_list_append PySem.F.type_list_append bQ (pv 8) (Y4 (@ot _ _ _ _ _ _ _ _ _ _ zP (pv 4) vX (@om _ _ _ (Za bp af (Za bC (Za bp (pv 7) (pv 6)) af)))))) (ZC))) (Ze (Y3 (9) bE.nd (Za bC (pv 1) (pv 7))) (Ze (Y3 (10) bE.nd (Zr DR (pv 3) (Za bC (Za bp (Za dS (pv 1) af) (pv 6)) af))) (Zh (@a8 _ _ _ _ (Zd K PySem.F.plainAttrs_list PySem.F.slot_list_append PySem.F.type_list_append bQ (pv 8) (Y4 (Za m9 (Za m9 (@ot _ _ _ _ _ _ _ _ _ _ zP (pv 4) vX (@om _ _ _ (pv 9))) (pv 10)) (@ot _ _ _ _ _ _ _ _ _ _ zP (pv 4) (@om _ _ _ (Za bp (pv 9) af)) (@om _ _ _ (pv 7)))))) (ZC))))))) (by intro _;rfl)) (Zh (Zs (pv 8)))))))))),?_⟩;refine⟨_,rfl,_,_,rfl,rfl,⟨ZA,ZA⟩,?_⟩;refine⟨12,rfl,ZA,ZA,?_⟩;refine fo (fun i σ H'=>H'=H∧∃(bS:Str)(rest:Int)(kv:Option V),bS.length=i∧lows bS∧σ=[some (.int cell),some (.int other),some (.int many),some (.str Ny),some (.str bS),some (.int rest),kv,none,none,none,none]) ⟨rfl,_,_,_,(by decide+kernel),(show(Str.ofString "").cps.toList.all low=true by decide+kernel),rfl⟩ ?_ ?_
  ·rintro i σ H' hi ⟨rfl,bS,rest,kv,hl,Lw,rfl⟩;have hi:i<12:=hi;refine⟨_,rfl,_,rfl,_,rfl,_,_,rfl,rfl,Vg,_,_,_,rfl,rfl,aE Zw,Ei,_,_,rfl,rfl,aE (show bS.length+1≤100000 by omega),?_⟩;refine⟨_,rfl,_,_,rfl,rfl,⟨ZA,ZA⟩,rfl,_,_,_,?_,?_,rfl⟩
   ·rw[len_app,hl];rfl
   ·have h1:bS.cps.toList.all low=true:=Lw;have h2:=Be rest;unfold lows;rw[oI,List.all_append,h1];simp[h2]
  ·rintro σ H' ⟨rfl,bS,rest,kv,hl,Lw,rfl⟩;have hl:bS.length=12:=hl;refine⟨_,rfl,_,_,rfl,rfl,⟨ZA,ZA⟩,_,_,rfl,rfl,Vh,_,_,rfl,rfl,?_⟩;have z0:1≤1+cell/2%12∧1+cell/2%12≤12:=Zz;refine⟨aE Zu,fun D hD=>?_⟩;refine⟨_,rfl,many,rfl,Zz,Zz,?_⟩;refine fo (fun i σ H2=>(∃u v w,σ=[some (.int cell),some (.int other),some (.int many),some (.str Ny),some (.str bS),some (.int rest),u,some (.int (1+cell/2%12)),some (.ref D),v,w])∧H2 D=some (.lst (((List.range i).map (j7 bS cell other)).map V.str))∧ax H' H2) ⟨⟨_,_,_,rfl⟩,ae,ax.upd hD⟩ ?_ ?_
   ·rintro i σ H2 hi ⟨⟨u,v,w,rfl⟩,lS,s2⟩;have hi:i<12:=Zz;have nx:∀z,z=j7 bS cell other i→(List.range i).map (fun k=>V.str (j7 bS cell other k))++[V.str z]=((List.range (i+1)).map (j7 bS cell other)).map V.str:=fun z e=>by
     rw[List.range_succ,e];simp
    have hZ:(((List.range i).map (j7 bS cell other)).map V.str).length<sizeLine:=bf (by simp;omega);refine⟨_,rfl,_,_,rfl,rfl,(show(0:Int)<2 by decide),rfl,_,rfl,?_⟩;refine a9 (fun h=>?_) (fun h=>?_)
    ·have h:cell%2=1:=by simpa using h
     refine⟨_,rfl, .inl ⟨rfl,_, .of lS⟩,_,rfl,_,rfl,_,rfl,_,_,rfl,rfl,_,_,rfl,rfl,Vh,_,_,rfl,rfl,_,rfl,bS,rfl,aE Zw,D,_,_,rfl,rfl,lS,hZ,⟨_,_,_,rfl⟩,?_,s2.ft hD⟩;rw[ae];have:=nx (Txt.slice bS none (some (1+(1+cell/2%12+(0+(i:Int)))%12))) (by simp[j7,h]);rw[←this];simp
    ·have h:¬cell%2=1:=by simpa using h
     have z1:0≤other%(1+cell/2%12)∧other%(1+cell/2%12)<1+cell/2%12:=⟨Int.emod_nonneg _ (Zz),Int.emod_lt_of_pos _ (Zz)⟩
     have b1:=vt bS none (some (other%(1+cell/2%12)));have b2:=vt bS (some (other%(1+cell/2%12)+1)) (some (1+cell/2%12));refine⟨_,rfl,_,rfl,_,_,rfl,rfl,(show(0:Int)<1+cell/2%12 by omega),?_⟩;refine⟨_,rfl,_,rfl,_,_,rfl,rfl,⟨ZA,ZA⟩,_,rfl,_,_,rfl,rfl,_,_,rfl,rfl,Vg,_,_,_,rfl,rfl,aE Zw,Ei,?_⟩;refine⟨_,rfl, .inl ⟨rfl,_, .of lS⟩,_,rfl,_,rfl,_,rfl,bS,rfl,aE Zw,_,rfl,_,_,rfl,rfl,aE (show(Txt.slice bS none (some (other%(1+cell/2%12)))).length+1≤100000 by omega),_,rfl,_,rfl,_,_,rfl,rfl,_,rfl,_,rfl,_,rfl,bS,rfl,aE Zw,_,_,rfl,rfl,?_,D,_,_,rfl,rfl,lS,hZ,⟨_,_,_,rfl⟩,?_,s2.ft hD⟩
     ·rw[len_app];exact aE (show(Txt.slice bS none (some (other%(1+cell/2%12)))).length+1+_≤100000 by omega)
     rw[ae];have:=nx (Txt.slice bS none (some (other%(1+cell/2%12)))++⟨#[97+((other/12+(0+(i:Int)))%26).toNat]⟩++Txt.slice bS (some (other%(1+cell/2%12)+1)) (some (1+cell/2%12))) (by simp[j7,h]);rw[←this];simp
   ·rintro σ H2 ⟨⟨u,v,w,rfl⟩,lS,s2⟩;refine⟨_,rfl,q H2 D _ s2 hD lS Zu ?_ (zS hl cell other (Zz))⟩;intro z hz;obtain⟨k,_,rfl⟩:=List.mem_map.mp hz;exact El hl Lw cell other k
variable(aX:bK P w K mg base true 1 "_law_at" ["_law_script","_law_k"] (Ea K))
theorem gy:aK ["_law_script","_law_cell","_law_spot","_law_many","_law_bank_here","_law_book_here","_law_rest","_law_k"] ["_law_script","_law_cell","_law_spot","_law_many","_law_bank_here"] (au lN):=⟨rfl,rfl,rfl,by decide+kernel,rfl,by decide+kernel,by decide+kernel⟩
include T aX in
theorem xh{f:Addr}{fd:FuncData}(F:jn K "_law_book" "_law_book" lN f fd):aZ P w K mg base (cV P w) true 2 f fd ["_law_script","_law_cell","_law_spot","_law_many","_law_bank_here"] (wD K):=by
 refine F.gK gy Zv (fun bR A outer s H vs Q E hr h hX=>?_)
 ·obtain⟨a,b,ns,zs,c,p,m,rfl,_⟩:=h;rfl
 ·obtain⟨a,b,ns,zs,c,p,m,rfl,hS,hb,⟨XZ,LR⟩,X0,SQ,BK,q⟩:=h;refine⟨_,(Ze (Y3 (5) gy.nd (@bI _ _ _ _ ai)) (Ze (Y3 (6) gy.nd (pv 1)) (Ze (@bG _ _ _ _ _ _ _ _ hX.own Zy (@eA _ _ _ _ _ _ (by exact rfl) T.fJ (Y4 (pv 3)) (ZC)) (Y6 (7) gy.nd) (Ze (@a8 _ _ _ _ (Zd K PySem.F.plainAttrs_list PySem.F.slot_list_append PySem.F.type_list_append bQ (pv 5) (Y4 (Y7 (pv 4) (Za bC (Za bp (Za bp (pv 6) (pv 7)) (Y5 aX aQ (Y8 (pv 0) (Y4 (Za bp (pv 2) (pv 7)))))) (Y9 (aJ K) T.cP (Y4 (pv 4))))))) (ZC)) (Zh (Y3 (6) gy.nd (Za dS (pv 6) (Y9 (aJ K) T.cP (Y4 (pv 4))))))) (by intro _;rfl)) (Zh (Zs (pv 5)))))),?_⟩;refine⟨aE Zu,fun l hl=>?_⟩;refine⟨_,rfl,?_⟩;refine⟨_,rfl,m,rfl,Zz,Zz,?_⟩;refine fo (fun i σ H'=>(∃r u,σ=[some (.ref a),some (.int c),some (.int p),some (.int m),some (.ref b),some (.ref l),some (.int r),u])∧ax H H'∧∃ws:List Str,H' l=some (.lst (ws.map V.str))∧ws.length=i∧∀w∈ws,w∈zs) ⟨⟨_,_,rfl⟩,ax.upd hl,[],ae,rfl,fun w hw=>by cases hw⟩ ?_ ?_
  ·rintro i σ H' hi ⟨⟨r,u,rfl⟩,s1,ws,jZ,rQ,Lx⟩;have hi:i<m.toNat:=hi;have jh:=s1 _ _ hb;have z0:0≤(r+(0+(i:Int))+cell ns (p+(0+(i:Int))))%(zs.length:Int):=Int.emod_nonneg _ (Zz);have z1:(r+(0+(i:Int))+cell ns (p+(0+(i:Int))))%(zs.length:Int)<(zs.length:Int):=Int.emod_lt_of_pos _ (Zz);obtain⟨w,hw,uk⟩:=zR zs z0 z1;have el:(zs.map V.str).length=zs.length:=List.length_map ..;refine⟨_,rfl, .inl ⟨rfl,_, .of jZ⟩,_,rfl,_,rfl,_,rfl,_,_,rfl,rfl,_,rfl,_,rfl,_,rfl,_,_,rfl,rfl,a,ns,_,rfl,s1.seq hS,Zz,_,_,rfl,rfl,_,rfl,b,_,rfl, .inl (.of jh),_,_,rfl,rfl,(by rw[el];show(0:Int)<_;omega),b,_,_,_,rfl,rfl, .of jh,(by rw[el];exact uk),l,_,_,rfl,rfl,jZ,bf (by rw[List.length_map];omega),?_⟩;have Hu:b≠l:=aD hb hl;have w8:upd H' l (.lst (ws.map V.str++[.str w])) b=some (.lst (zs.map V.str)):=by rw[ak Hu];exact jh
   refine⟨_,rfl,_,rfl,b,_,rfl, .inl (.of w8),_,_,rfl,rfl,⟨by rw[el];omega,by rw[el];omega⟩,⟨_,_,rfl⟩,s1.ft hl,ws++[w],?_,by simp[rQ],?_⟩
   ·rw[ae];simp
   ·intro x hx;rcases List.mem_append.mp hx with hx|hx
    ·exact Lx x hx
    ·have:x=w:=by simpa using hx
     rw[this];exact hw
  ·rintro σ H' ⟨⟨r,u,rfl⟩,s1,ws,jZ,rQ,Lx⟩;exact⟨_,rfl,q H' l ws s1 hl jZ rQ Lx⟩
theorem cx:aK ["_law_script","_law_cell","_law_spot","_law_many","_law_first","_law_bank_here","_law_book_here","_law_rest","_law_place","_law_k","_law_pick"] ["_law_script","_law_cell","_law_spot","_law_many","_law_first","_law_bank_here"] (au iJ):=⟨rfl,rfl,rfl,by decide+kernel,rfl,by decide+kernel,by decide+kernel⟩
include T aX in
theorem uG{f:Addr}{fd:FuncData}(F:jn K "_law_quote" "_law_quote" iJ f fd):aZ P w K mg base (cV P w) true 2 f fd ["_law_script","_law_cell","_law_spot","_law_many","_law_first","_law_bank_here"] (sU K):=by
 refine F.gK cx Zv (fun bR A outer s H vs Q E hr h hX=>?_)
 ·obtain⟨a,b,x,ns,zs,Ly,c,p,m,rfl,_⟩:=h;rfl
 ·obtain⟨a,b,x,ns,zs,Ly,c,p,m,rfl,hS,hb,hx,⟨XZ,LR⟩,xW,SR,X0,SQ,BK,q⟩:=h;have hu:=hr.units;have HA:(A.deeper (PyProof.Rows.envOfC "_law_quote" (au iJ) s.heap.objs.size f bR)).units<cLine:=Zz;have c8:(0:Int)<8:=ZA;refine⟨_,(Ze (Y3 (6) cx.nd (@bI _ _ _ _ ai)) (Ze (Y3 (7) cx.nd (pv 1)) (Ze (Y3 (8) cx.nd af) (Ze (@bG _ _ _ _ _ _ _ _ hX.own Zy (@eA _ _ _ _ _ _ (by exact rfl) T.fJ (Y4 (pv 3)) (ZC)) (Y6 (9) cx.nd) (Ze (Y3 (10) cx.nd (Za bp (pv 7) (Y5 aX aQ (Y8 (pv 0) (Y4 (Za bp (pv 2) (pv 9))))))) (Ze (Y3 (7) cx.nd (Za dS (pv 7) (Za m8 af (Y9 (aJ K) T.cP (Y4 (pv 5)))))) (Zh (Zj (@PW.pt _ _ _ (@pw_and _ _ _ _ _ _ _ (Zo mP (Za bC (pv 10) af) af (aV _)) (@pw_and1 _ _ _ _ (Zo (ni K HA) (pv 4) (@bI _ _ _ _ ai) (aV _))))) (Ze (Y3 (8) cx.nd (Za bp (pv 8) (@fV _ _ _ _ _ _ _ _ _ qc Zy T.Ba PyProof.Rows.Boot.«int» (Y4 (@iE _ _ _ _ _ _ _ _ jm (Za bC (pv 10) af) af (aV _))) (ZA) (ZA) (ZC) (ZC)))) (Ze (@a8 _ _ _ _ (Zd K PySem.F.plainAttrs_list PySem.F.slot_list_append PySem.F.type_list_append bQ (pv 6) (Y4 (Y7 (pv 4) (Za bC (pv 8) (Y9 (aJ K) T.cP (Y4 (pv 4))))))) (ZC)) (Zh (Y3 (8) cx.nd (Za bp (pv 8) af))))) (Zh (@a8 _ _ _ _ (Zd K PySem.F.plainAttrs_list PySem.F.slot_list_append PySem.F.type_list_append bQ (pv 6) (Y4 (Y7 (pv 5) (Za bC (Za dS (pv 10) af) (Y9 (aJ K) T.cP (Y4 (pv 5))))))) (ZC))))))) (by intro _;rfl)) (Zh (Zs (pv 6))))))),?_⟩;refine⟨aE Zu,fun l hl=>?_⟩;refine⟨_,rfl,?_⟩;refine⟨_,rfl,m,rfl,Zz,Zz,?_⟩;refine fo (fun i σ H'=>(∃(r pl:Int)(u1 u2:Option V),σ=[some (.ref a),some (.int c),some (.int p),some (.int m),some (.ref x),some (.ref b),some (.ref l),some (.int r),some (.int pl),u1,u2])∧ax H H'∧∃ws:List Str,H' l=some (.lst (ws.map V.str))∧ws.length=i∧∀w∈ws,w∈zs) ⟨⟨_,_,_,_,rfl⟩,ax.upd hl,[],ae,rfl,fun w hw=>by cases hw⟩ ?_ ?_
  ·rintro i σ H' hi ⟨⟨r,pl,u1,u2,rfl⟩,s1,ws,jZ,rQ,Lx⟩;have hi:i<m.toNat:=hi;have jh:=s1 _ _ hb;have lg:=s1 _ _ hx;have el:(zs.map V.str).length=zs.length:=List.length_map ..;have Vi:(Ly.map V.str).length=Ly.length:=List.length_map ..;have hZ:(ws.map V.str).length<sizeLine:=bf (by rw[List.length_map];omega);refine⟨_,rfl,_,rfl,_,rfl,_,rfl,_,_,rfl,rfl,a,ns,_,rfl,s1.seq hS,Zz,_,_,rfl,rfl,?_⟩;refine⟨_,rfl,_,rfl,b,_,rfl, .inl (.of jh),_,_,rfl,rfl, .inl (ZA),_,_,rfl,rfl,⟨by rw[el];omega,by rw[el];omega⟩,?_⟩;have fin:∀H3 (w:Str),ax H H3→H3 l=some (.lst (ws.map V.str))→w∈zs→ax H (upd H3 l (.lst (ws.map V.str++[.str w])))∧∃SS:List Str,upd H3 l (.lst (ws.map V.str++[.str w])) l=some (.lst (SS.map V.str))∧SS.length=i+1∧∀w∈SS,w∈zs:=fun H3 w s3 h3 hw=>by
    refine⟨s3.ft hl,ws++[w],by rw[ae];simp,by simp[rQ],fun x hx=>?_⟩;rcases List.mem_append.mp hx with hx|hx
    ·exact Lx x hx
    ·have:x=w:=by simpa using hx
     rw[this];exact hw
   have other:∀H3,ax H H3→H3 l=some (.lst (ws.map V.str))→H3 b=some (.lst (zs.map V.str))→∃w,w∈zs∧rj (zs.map V.str) ((r+cell ns (p+(0+(i:Int))))/8%((zs.map V.str).length:Int))=some (.str w):=fun H3 _ _ _=>by
    rw[el];exact zR zs (Int.emod_nonneg _ (Zz)) (Int.emod_lt_of_pos _ (Zz))
   refine⟨_,rfl,_,_,rfl,rfl,c8,_,_,rfl,rfl,_,rfl,?_⟩;refine a9 (fun h1=>?_) (fun h1=>?_)
   ·refine⟨_,rfl,aE Zu,fun pn HJ=>⟨x,pn,_,rfl,rfl, .of (ax.upd HJ _ _ lg), .of ae,_,rfl,?_⟩⟩;have s2:ax H (upd H' pn (.lst [])):=s1.trans (ax.upd HJ);have sJ:=ax.upd (o:= .lst []) HJ _ _ jZ;refine a9 (fun h2=>?_) (fun h2=>?_)
    ·have eR:Ly≠[]:=by simpa using h2
     have OI:0<Ly.length:=List.length_pos_iff.mpr eR;obtain⟨w,hw,uk⟩:=zR Ly (i:=(pl+(if decide ((r+cell ns (p+(0+(i:Int))))%8=4)=true then 1 else 0))%((Ly.length:Nat):Int)) (Int.emod_nonneg _ (Zz)) (Int.emod_lt_of_pos _ (Zz));obtain⟨a1,a2⟩:=fin _ w s2 sJ (SR w hw);refine⟨_,rfl,_,rfl,_,_,rfl,rfl,c8,rfl, .inr ⟨_,rfl,_,_,rfl,rfl,?_⟩⟩;refine⟨_,rfl, .inl ⟨rfl,_, .of sJ⟩,_,rfl,_,rfl,_,rfl,x,_,rfl, .inl (.of (s2 _ _ hx)),_,_,rfl,rfl,(by rw[Vi];show(0:Int)<_;omega),x,_,_,_,rfl,rfl, .of (s2 _ _ hx),by rw[Vi];simpa[beq_iff_eq,v5]using uk,l,_,_,rfl,rfl,sJ,hZ,?_⟩;exact⟨_,rfl,_,_,rfl,rfl,⟨_,_,_,_,rfl⟩,a1,a2⟩
    ·obtain⟨w,hw,uk⟩:=other _ s2 sJ (s2 _ _ hb);obtain⟨a1,a2⟩:=fin _ w s2 sJ hw;refine⟨_,rfl, .inl ⟨rfl,_, .of sJ⟩,_,rfl,_,rfl,_,_,rfl,rfl,⟨ZA,ZA⟩,_,rfl,b,_,rfl, .inl (.of (s2 _ _ hb)),_,_,rfl,rfl,(by rw[el];show(0:Int)<_;omega),b,_,_,_,rfl,rfl, .of (s2 _ _ hb),uk,l,_,_,rfl,rfl,sJ,hZ,⟨_,_,_,_,rfl⟩,a1,a2⟩
   ·refine fN ?_;obtain⟨w,hw,uk⟩:=other _ s1 jZ jh;obtain⟨a1,a2⟩:=fin _ w s1 jZ hw;refine⟨_,rfl, .inl ⟨rfl,_, .of jZ⟩,_,rfl,_,rfl,_,_,rfl,rfl,⟨ZA,ZA⟩,_,rfl,b,_,rfl, .inl (.of jh),_,_,rfl,rfl,(by rw[el];show(0:Int)<_;omega),b,_,_,_,rfl,rfl, .of jh,uk,l,_,_,rfl,rfl,jZ,hZ,⟨_,_,_,_,rfl⟩,a1,a2⟩
  ·rintro σ H' ⟨⟨r,pl,u1,u2,rfl⟩,s1,ws,jZ,rQ,Lx⟩;exact⟨_,rfl,q H' l ws s1 hl jZ rQ Lx⟩
theorem eh:aK ["_law_script","_law_spot","_law_pick","_law_same","_law_most"] ["_law_script","_law_spot"] (au gm):=⟨rfl,rfl,rfl,by decide+kernel,rfl,by decide+kernel,by decide+kernel⟩
include T aX in
theorem rT{f:Addr}{fd:FuncData}(F:jn K "_law_numbers" "_law_numbers" gm f fd):aZ P w K mg base (cV P w) true 2 f fd ["_law_script","_law_spot"] (nj K):=by
 refine F.gK eh Zv (fun bR A outer s H vs Q E hr h hX=>?_)
 ·obtain⟨a,ns,k,rfl,_⟩:=h;rfl
 ·obtain⟨a,ns,k,rfl,hS,h0,q⟩:=h;have c2:(0:Int)<2:=ZA;have c4:(0:Int)<4:=ZA;have c6:(0:Int)<6:=ZA;have cM:(0:Int)<1000000:=ZA;have Vj:∀i:Int,JH i 4:=fun i=>⟨ZA,ZA⟩
  have X1:∀i:Int,JH i 8:=fun i=>⟨ZA,ZA⟩
  refine⟨_,(Ze (@me _ _ _ _ _ _ _ _ _ _ _ _ _ _ _ (2) _ _ (by exact rfl) eh.nd Zy (by exact rfl) (show bB ["_law_script","_law_spot","_law_pick","_law_same","_law_most"] (au gm) _ ["_law_k"] [0,1] ["_law_script","_law_spot"]from⟨rfl,by decide+kernel,by decide+kernel,by decide+kernel,rfl,rfl,by decide+kernel,by decide+kernel,by decide+kernel⟩) (@eA _ _ _ _ _ _ (by exact rfl) T.fJ (Y4 af) (ZC)) (fun _ _ _ _ _=>(Y6 (0) (show(["_law_k","_law_script","_law_spot"]:List Str).Nodup by decide+kernel))) (fun _ _ _ _ _=>jo) (fun _ _ _ _ _=>(Y5 aX aQ (Y8 (pv 1) (Y4 (Za bp (pv 2) (pv 0)))))) (ZC) (by intro _;rfl)) (Ze (Zj (Zo mP (Za bC (Y7 (pv 2) af) af) af (aV _)) (Ze (Y3 (3) eh.nd (Za bp af (Za bC (Za dS (Y7 (pv 2) af) af) af))) (Zh (Zs (@bI _ _ _ _ (Y8 (pv 3) (Y8 (Za bC (Y7 (pv 2) af) af) (Y8 (Za bC (Y7 (pv 2) af) af) (Y4 (Za bp af (Za bC (Y7 (pv 2) af) (Za m8 af (pv 3)))))))))))) aP) (Ze (Y3 (3) eh.nd (Za bp af (Za bC (Za dS (Y7 (pv 2) af) af) af))) (Ze (Y3 (4) eh.nd (Y7 (@bI _ _ _ _ (Y8 (Zi (l_ rfl) T.Bb PyProof.Rows.Boot.«min» (Y8 af (Y4 (Za m8 af (pv 3))))) (Y4 af))) (Za bC (Za dS (Y7 (pv 2) af) af) af))) (Zh (Zs (@bI _ _ _ _ (Y8 (pv 3) (Y8 (Za bC (Y7 (pv 2) af) af) (Y8 (Za bC (Y7 (pv 2) af) af) (Y4 (Za bp af (Za bC (Y7 (pv 2) af) (pv 4)))))))))))))),?_⟩;refine⟨4,rfl,ZA,ZA,fun D hD=>?_⟩;refine zO (fun i ys bD H'=>(∃u,bD=[u,some (.ref a),some (.int k)])∧∃is:List Int,ys=is.map V.int∧is.length=i∧H' D=some (.lst ys)∧ax H H') ⟨⟨_,rfl⟩,[],rfl,rfl,ae,ax.upd hD⟩ ?_ ?_
  ·rintro i ys bD H' hi ⟨⟨u,rfl⟩,is,rfl,hl,X2,s1⟩;have hi:i<4:=hi;refine sN ?_;exact⟨_,rfl,_,rfl,_,rfl,_,_,rfl,rfl,a,ns,_,rfl,s1.seq hS,by lia,X2,bf (by rw[List.length_map];lia),⟨_,rfl⟩,is++[cell ns (k+(0+(i:Int)))],ZD,by simp[hl],ae,s1.ft hD⟩
  ·rintro ys bD H1 ⟨_,is,rfl,hl,rP,s1⟩;obtain⟨p0,p1,p2,p3,rfl⟩:=GI hl;refine⟨_,rfl,D,_,0,_,rfl,rfl, .of rP,ar (j:=0) rfl,_,_,rfl,rfl,c4,_,_,rfl,rfl,_,rfl,?_⟩;refine a9 (fun _=>?_) (fun _=>?_)
   ·refine⟨_,rfl,D,_,0,_,rfl,rfl, .of rP,ar (j:=0) rfl,_,_,rfl,rfl,Vj _,_,_,rfl,rfl,c6,_,_,rfl,rfl,?_⟩;have z0:1≤1+p0/4%6∧1+p0/4%6≤6:=by lia
    have z3:0≤p3%(3*(1+p0/4%6)):=Int.emod_nonneg _ (by lia);have z4:p3%(3*(1+p0/4%6))<3*(1+p0/4%6):=Int.emod_lt_of_pos _ (by lia);exact⟨_,rfl,_,rfl,D,_,1,_,rfl,rfl, .of rP,ar (j:=1) rfl,_,_,rfl,rfl,c4,_,rfl,D,_,2,_,rfl,rfl, .of rP,ar (j:=2) rfl,_,_,rfl,rfl,c4,_,rfl,D,_,3,_,rfl,rfl, .of rP,ar (j:=3) rfl,_,rfl,_,_,rfl,rfl, .inl (ZA),_,_,rfl,rfl,(show(0:Int)<3*(1+p0/4%6) by lia),_,_,rfl,rfl,aE Zu,fun p hp=>q _ p _ _ _ _ (s1.trans (ax.upd hp)) (s1.free hp) ae Zx (by lia) (by lia) (by lia)⟩
   ·refine⟨_,rfl,D,_,0,_,rfl,rfl, .of rP,ar (j:=0) rfl,_,_,rfl,rfl,X1 _,_,_,rfl,rfl,(show(0:Int)<999999 by decide),_,_,rfl,rfl,?_⟩;have z0:1≤1+p0/8%999999∧1+p0/8%999999≤999999:=by lia
    obtain⟨m,BK,hm⟩:=int_at [if 3*(1+p0/8%999999)<999999 then 3*(1+p0/8%999999)else 999999,999999] (i:=p0/4%2) (by lia) (show p0/4%2<2 by lia);have FW:1≤m∧m≤999999:=by
     simp only[List.mem_cons,List.not_mem_nil,or_false]at BK;rcases BK with rfl|rfl
     ·split<;>lia
     ·lia
    refine⟨_,rfl,_,_,rfl,rfl, .inl (ZA),_,_,rfl,aE Zu,fun p hp=>?_⟩;have lS:=ax.upd (o:= .lst [.int (if 3*(1+p0/8%999999)<999999 then 3*(1+p0/8%999999)else 999999), .int 999999]) hp _ _ rP;refine⟨_,rfl,D,_,0,_,rfl,rfl, .of lS,ar (j:=0) rfl,_,_,rfl,rfl,Vj _,_,_,rfl,rfl,c2,p,_,_,_,rfl,rfl, .of ae,hm,?_⟩;have z3:0≤p3%m:=Int.emod_nonneg _ (by lia);have z4:p3%m<m:=Int.emod_lt_of_pos _ (by lia);exact⟨_,rfl,_,rfl,D,_,1,_,rfl,rfl, .of lS,ar (j:=1) rfl,_,_,rfl,rfl,cM,_,rfl,D,_,2,_,rfl,rfl, .of lS,ar (j:=2) rfl,_,_,rfl,rfl,cM,_,rfl,D,_,3,_,rfl,rfl, .of lS,ar (j:=3) rfl,_,rfl,_,_,rfl,rfl,(show(0:Int)<m by lia),_,_,rfl,rfl,aE Zu,fun p2 B4=>q _ p2 _ _ _ _ ((s1.trans (ax.upd hp)).trans (ax.upd B4)) ((s1.trans (ax.upd hp)).free B4) ae Zx (by lia) (by lia) (by lia)⟩
theorem dj:aK ["_law_cell","_law_bank_here","_law_same","_law_found","_law_rest","_law_x","_law_y","_law_price"] ["_law_cell","_law_bank_here","_law_same"] (au lO):=⟨rfl,rfl,rfl,by decide+kernel,rfl,by decide+kernel,by decide+kernel⟩
include T in
theorem xi{f:Addr}{fd:FuncData}(F:jn K "_law_near" "_law_near" lO f fd):aZ P w K mg base (cV P w) true 1 f fd ["_law_cell","_law_bank_here","_law_same"] wC:=by
 refine F.gK dj Zv (fun bR A outer s H vs Q E hr h hX=>?_)
 ·obtain⟨cell,same,b,zs,rfl,_⟩:=h;rfl
 ·obtain⟨cell,same,b,zs,rfl,hb,X3,hw,hn,YV,JJ,q⟩:=h;have Nn:(0:Int)<same+3:=Zz;refine⟨_,(Ze (Y3 (3) dj.nd (@bI _ _ _ _ ai)) (Ze (Y3 (4) dj.nd (pv 0)) (Ze (@bG _ _ _ _ _ _ _ _ hX.own Zy (@bg _ K _ _ _ (pv 1) (ZC)) (Y6 (5) dj.nd) (Zh (@bG _ _ _ _ _ _ _ _ hX.own Zy (@bg _ K _ _ _ (pv 1) (ZC)) (Y6 (6) dj.nd) (Zh (Zj (Zo u_ (pv 5) (pv 6) (aV _)) (Ze (Y3 (7) dj.nd (Za bC (Za dS (pv 4) af) (Za bp (pv 2) af))) (Zl (Zj (Zo jm (Za bC (pv 4) af) af (aV _)) (Ze (@a8 _ _ _ _ (Zd K PySem.F.plainAttrs_list PySem.F.slot_list_append PySem.F.type_list_append bQ (pv 3) (Y4 (@eV _ _ _ _ _ (Y8 (pv 5) (Y8 (pv 6) (Y4 (Zi (l_ rfl) T.Bb PyProof.Rows.Boot.«min» (Y8 (pv 7) (Y4 af))))))))) (ZC)) (Zh (Y3 (4) dj.nd (Za dS (pv 4) (Za bp (pv 2) af))))) (Zh (Zj (Zo jm (Za bC (pv 4) af) af (aV _)) (Zh (@a8 _ _ _ _ (Zd K PySem.F.plainAttrs_list PySem.F.slot_list_append PySem.F.type_list_append bQ (pv 3) (Y4 (@eV _ _ _ _ _ (Y8 (pv 5) (Y8 (pv 6) (Y4 af)))))) (ZC))) aP))) (Zh (Y3 (4) dj.nd (Za dS (pv 4) af))))) aP)) (by intro _;rfl))) (by intro _;rfl)) (Zh (Zs (pv 3)))))),?_⟩;refine⟨aE Zu,fun l hl=>?_⟩;refine⟨_,rfl,?_⟩;have YW:b≠l:=aD hb hl;refine⟨_,rfl,b,rfl,⟨_, .of (ax.upd hl _ _ hb)⟩,?_⟩;refine bU (xs:=zs.map V.str) (fun i σ H'=>(∃(rest:Int)(u1 u2 u3:Option V),σ=[some (.int cell),some (.ref b),some (.int same),some (.ref l),some (.int rest),u1,u2,u3])∧ax H H'∧∃xs fs,H' l=some (.lst xs)∧dP H' xs fs∧cX zs i 0 fs) ⟨⟨_,_,_,_,rfl⟩,ax.upd hl,[],[],ae, .nil, .nil⟩ ?_ ?_ ?_
  ·rintro i σ H' _ ⟨_,s1,_⟩;exact .of (s1 _ _ hb)
  ·rintro i v σ H' hv ⟨⟨rest,u1,u2,u3,rfl⟩,s1,xs,fs,jZ,T1,P1⟩;obtain⟨x,hx,rfl⟩:∃x,zs[i]?=some x∧v= .str x:=mh hv;have hi:i<zs.length:=(Y' hx).1;refine⟨_,rfl,b,rfl,⟨_, .of (s1 _ _ hb)⟩,?_⟩;refine bU (xs:=zs.map V.str) (fun j σ H'=>(∃(rest:Int)(u2 u3:Option V),σ=[some (.int cell),some (.ref b),some (.int same),some (.ref l),some (.int rest),some (.str x),u2,u3])∧ax H H'∧∃xs fs,H' l=some (.lst xs)∧dP H' xs fs∧cX zs i j fs) ⟨⟨_,_,_,rfl⟩,s1,xs,fs,jZ,T1,P1⟩ ?_ ?_ ?_
   ·rintro j σ H' _ ⟨_,s1,_⟩;exact .of (s1 _ _ hb)
   ·clear s1 jZ T1 P1 xs fs u1 u2 u3 rest H';rintro j v σ H' hv ⟨⟨rest,u2,u3,rfl⟩,s1,xs,fs,jZ,T1,P1⟩;obtain⟨y,hy,rfl⟩:∃y,zs[j]?=some y∧v= .str y:=mh hv;have DT:xs.length<1000:=by
     have h1:=P1.sI;have h2:i*(zs.length-1)≤8*7:=Nat.mul_le_mul Zw (Zz);have h3:j<zs.length:=(Y' hy).1;have h4:=T1.1;omega
    refine⟨_,rfl,_,rfl,rfl,_,rfl,?_⟩;refine a9 (fun h=>?_) (fun h=>?_)
    rotate_left
    ·exact⟨⟨_,_,_,rfl⟩,s1,xs,fs,jZ,T1,P1.skip⟩
    have eR:¬x=y:=by simpa using h
    refine⟨_,rfl,_,_,rfl,rfl,⟨ZA,ZA⟩,_,rfl,_,_,rfl,rfl,_,_,rfl,rfl,Nn,?_⟩;have p0:0≤rest/3%(same+3):=Int.emod_nonneg _ (Zz);have add:∀(t:Addr)(ht:H' t=none)(pr:Int),0≤pr→pr≤999999→ax H (upd (upd H' t (.tup [.str x, .str y, .int pr])) l (.lst (xs++[.ref t])))∧∃FA Jb,upd (upd H' t (.tup [.str x, .str y, .int pr])) l (.lst (xs++[.ref t])) l=some (.lst FA)∧dP (upd (upd H' t (.tup [.str x, .str y, .int pr])) l (.lst (xs++[.ref t]))) FA Jb∧cX zs i (j+1) Jb:=fun t ht pr h0 h1=>by
     refine⟨(s1.trans (ax.upd ht)).ft hl,_,fs++[(x,y,pr)],ae,?_,P1.add hn hw hx hy eR h0 h1⟩;have T2:dP (upd H' t (.tup (J_ (x,y,pr)))) (xs++[.ref t]) (fs++[(x,y,pr)]):=(T1.same (ax.upd ht)).snoc ae;exact T2.cD (dG.lst (ax.upd ht _ _ jZ))
    refine⟨fun σ H2=>(∃(rest:Int)(u3:Option V),σ=[some (.int cell),some (.ref b),some (.int same),some (.ref l),some (.int rest),some (.str x),some (.str y),u3])∧ax H H2∧∃xs fs,H2 l=some (.lst xs)∧dP H2 xs fs∧cX zs i (j+1) fs,?_,?_⟩
    ·refine⟨_,rfl,_,_,rfl,rfl,(show(0:Int)<3 by decide),rfl,_,rfl,?_⟩;refine a9 (fun _=>?_) (fun _=>?_)
     ·refine⟨_,rfl, .inl ⟨rfl,_, .of jZ⟩,_,rfl,_,rfl,_,rfl,_,_,rfl,aE Zu,fun t ht=>⟨l,xs,_,rfl,rfl,ax.upd ht _ _ jZ,bf Zw,?_⟩⟩;obtain⟨a1,a2⟩:=add t ht (if 999999<rest/3%(same+3)then 999999 else rest/3%(same+3)) (by split<;>omega) (by split<;>omega);exact⟨_,rfl,_,rfl,_,_,rfl,rfl,_,_,rfl,rfl,⟨Nn,Zz⟩,⟨_,_,rfl⟩,a1,a2⟩
     ·refine⟨_,rfl,_,_,rfl,rfl,(show(0:Int)<9 by decide),rfl,_,rfl,?_⟩;refine a9 (fun _=>?_) (fun _=>?_)
      ·refine⟨_,rfl, .inl ⟨rfl,_, .of jZ⟩,_,rfl,_,rfl,aE Zu,fun t ht=>⟨l,xs,_,rfl,rfl,ax.upd ht _ _ jZ,bf Zw,?_⟩⟩;obtain⟨a1,a2⟩:=add t ht 999999 (ZA) (ZA);exact⟨⟨_,_,rfl⟩,a1,a2⟩
      ·exact⟨⟨_,_,rfl⟩,s1,xs,fs,jZ,T1,P1.skip⟩
    rintro σ H2 ⟨⟨Jc,u4,rfl⟩,s2,FA,Jb,sJ,T2,P2⟩;exact⟨_,rfl,_,_,rfl,rfl,⟨ZA,ZA⟩,⟨_,_,_,rfl⟩,s2,FA,Jb,sJ,T2,P2⟩
   ·rintro σ H2 ⟨⟨Jc,u4,u5,rfl⟩,s2,FA,Jb,sJ,T2,P2⟩;rw[List.length_map]at P2;exact⟨⟨_,_,_,_,rfl⟩,s2,FA,Jb,sJ,T2,P2.row hi⟩
  ·rintro σ H2 ⟨⟨Jc,u4,u5,u6,rfl⟩,s2,FA,Jb,sJ,T2,P2⟩;rw[List.length_map]at P2;exact⟨_,rfl,q H2 l FA Jb s2 hl sJ T2 (P2.good X3)⟩
variable(jB:bK P w K mg base true 1 "_law_bank" ["_law_cell","_law_other","_law_many"] wB)
variable(jC:bK P w K mg base true 2 "_law_book" ["_law_script","_law_cell","_law_spot","_law_many","_law_bank_here"] (wD K))
variable(iP:bK P w K mg base true 2 "_law_quote" ["_law_script","_law_cell","_law_spot","_law_many","_law_first","_law_bank_here"] (sU K))
variable(gz:bK P w K mg base true 2 "_law_numbers" ["_law_script","_law_spot"] (nj K))
variable(jD:bK P w K mg base true 1 "_law_near" ["_law_cell","_law_bank_here","_law_same"] wC)
theorem dq:aK ["_law_script","_law_most","_law_many","_law_bank_here","_law_one","_law_other","_law_first","_law_second","_law_numbers_here"] ["_law_script","_law_most"] (au lP):=⟨rfl,rfl,rfl,by decide+kernel,rfl,by decide+kernel,by decide+kernel⟩
include T aX jB jC iP gz jD in
theorem xj{f:Addr}{fd:FuncData}(F:jn K "_law_case" "_law_case" lP f fd):aZ P w K mg base (cV P w) true 3 f fd ["_law_script","_law_most"] (wF K):=by
 refine F.gK dq Zv (fun bR A outer s H vs Q E hr h hX=>?_)
 ·obtain⟨a,ns,most,rfl,_⟩:=h;rfl
 ·obtain⟨a,ns,most,rfl,hS,SQ,BK,q⟩:=h;refine⟨_,(Zl (Y3 (2) dq.nd (Za bp (Za bp af (Za bC (Zb aX aQ) af)) (Za m8 (@fV _ _ _ _ _ _ _ _ _ qc Zy T.Ba PyProof.Rows.Boot.«int» (Y4 (@iE _ _ _ _ _ _ _ _ oh (pv 1) af (aV _))) (ZA) (ZA) (ZC) (ZC)) af))) (Zl (Y3 (3) dq.nd (Y5 jB aQ (Y8 (Zb aX aQ) (Y8 (Zb aX aQ) (Y4 (pv 2)))))) (Zl (Y3 (4) dq.nd (Za bZ (pv 1) (Za bC (Zb aX aQ) (Za bp (pv 1) af)))) (Zl (Y3 (5) dq.nd (Za bZ (pv 1) (Za bC (Zb aX aQ) (Za bp (pv 1) af)))) (Zl (Y3 (6) dq.nd (Y5 jC aQ (Y8 (pv 0) (Y8 (Zb aX aQ) (Y8 af (Y8 (pv 4) (Y4 (pv 3)))))))) (Zl (Y3 (7) dq.nd (Y5 iP aQ (Y8 (pv 0) (Y8 (Zb aX aQ) (Y8 af (Y8 (pv 5) (Y8 (pv 6) (Y4 (pv 3))))))))) (Zl (Y3 (8) dq.nd (Zb gz aQ)) (Zh (Zs (@bI _ _ _ _ (Y8 (pv 6) (Y8 (pv 7) (Y8 (pv 8) (Y4 (Y5 jD aQ (Y8 (Zb aX aQ) (Y8 (@ot _ _ _ _ _ _ _ _ _ _ (D_ K) (pv 3) vX (@om _ _ _ af)) (Y4 (Y7 (pv 8) af))))))))))))))))))),?_⟩;refine⟨fun σ H1=>∃many:Int,σ=[some (.ref a),some (.int most),some (.int many),none,none,none,none,none,none]∧H1=H∧1≤many∧many≤12,?_,?_⟩
  ·refine⟨_,rfl,a,ns,2,rfl,hS,ZA,_,_,rfl,rfl,(show(0:Int)<5 by decide),_,_,rfl,rfl,_,rfl,_,_,rfl,rfl, .inr ⟨_,rfl,_,_,rfl,rfl, .inr ⟨ZA,ZA⟩,_,_,rfl,rfl,_,rfl,rfl,?_,?_⟩⟩
   ·split<;>lia
   ·split<;>lia
  rintro σ H ⟨many,rfl,rfl,YX,FT⟩;refine⟨fun σ H1=>∃(b:Addr)(zs:List Str),σ=[some (.ref a),some (.int most),some (.int many),some (.ref b),none,none,none,none,none]∧ax H H1∧H1 b=some (.lst (zs.map V.str))∧(1≤zs.length∧zs.length≤12)∧(∀z∈zs,sP z=true)∧zs.Nodup,?_,?_⟩
  ·exact⟨_,rfl,a,ns,0,rfl,hS,ZA,_,rfl,a,ns,1,rfl,hS,ZA,_,rfl,_,_,many,rfl,by lia,by lia,fun H' b zs s1 hb jh hz hw hn=>⟨b,zs,rfl,s1,jh,by lia,hw,hn⟩⟩
  rintro σ H1 ⟨b,zs,rfl,s1,jh,hz,hw,hn⟩;have OJ:=s1.seq hS;refine⟨fun σ H2=>∃one:Int,σ=[some (.ref a),some (.int most),some (.int many),some (.ref b),some (.int one),none,none,none,none]∧H2=H1∧0≤one∧one≤most,?_,?_⟩
  ·have z0:0≤cell ns 3%(most+1):=Int.emod_nonneg _ (by lia);have z1:cell ns 3%(most+1)<most+1:=Int.emod_lt_of_pos _ (by lia);exact⟨_,rfl,_,rfl,a,ns,3,rfl,OJ,ZA,_,rfl,_,_,rfl,rfl,_,_,rfl,rfl,(show(0:Int)<most+1 by lia),_,_,rfl,rfl,_,rfl,rfl,by lia,by lia⟩
  rintro σ H1 ⟨one,rfl,rfl,X4,G9⟩;refine⟨fun σ H2=>∃HK:Int,σ=[some (.ref a),some (.int most),some (.int many),some (.ref b),some (.int one),some (.int HK),none,none,none]∧H2=H1∧0≤HK∧HK≤most,?_,?_⟩
  ·have z0:0≤cell ns 4%(most+1):=Int.emod_nonneg _ (by lia);have z1:cell ns 4%(most+1)<most+1:=Int.emod_lt_of_pos _ (by lia);exact⟨_,rfl,_,rfl,a,ns,4,rfl,OJ,ZA,_,rfl,_,_,rfl,rfl,_,_,rfl,rfl,(show(0:Int)<most+1 by lia),_,_,rfl,rfl,_,rfl,rfl,by lia,by lia⟩
  rintro σ H1 ⟨HK,rfl,rfl,Hy,N_⟩;refine⟨fun σ H2=>∃(x:Addr)(xs:List Str),σ=[some (.ref a),some (.int most),some (.int many),some (.ref b),some (.int one),some (.int HK),some (.ref x),none,none]∧ax H1 H2∧H2 x=some (.lst (xs.map V.str))∧xs.length=one.toNat∧∀w∈xs,w∈zs,?_,?_⟩
  ·exact⟨_,rfl,_,rfl,a,ns,10,rfl,OJ,ZA,_,rfl,_,rfl,a,b,ns,zs,_,16,one,rfl,OJ,jh,⟨hz.1,by lia⟩,ZA,X4,by lia,fun H2 x xs s2 hx xW hl n6=>⟨x,xs,rfl,s2,xW,hl,n6⟩⟩
  rintro σ H2 ⟨x,xs,rfl,s2,xW,RQ,SR⟩;have s3:=s1.trans s2;have SU:=s2.seq OJ;refine⟨fun σ H3=>∃(y:Addr)(ys:List Str),σ=[some (.ref a),some (.int most),some (.int many),some (.ref b),some (.int one),some (.int HK),some (.ref x),some (.ref y),none]∧ax H2 H3∧H3 y=some (.lst (ys.map V.str))∧ys.length=HK.toNat,?_,?_⟩
  ·exact⟨_,rfl,_,rfl,a,ns,11,rfl,SU,ZA,_,rfl,_,rfl,_,rfl,a,b,x,ns,zs,xs,_,17,HK,rfl,SU,s2 _ _ jh,xW,⟨hz.1,by lia⟩,by lia,SR,ZA,Hy,by lia,fun H3 y ys s4 hy Dp hl _=>⟨y,ys,rfl,s4,Dp,hl⟩⟩
  rintro σ H3 ⟨y,ys,rfl,s4,X5,UT⟩;have s5:=s3.trans s4;have Lz:=s4.seq SU;refine⟨fun σ H4=>∃(n:Addr)(sa ou iN le:Int),σ=[some (.ref a),some (.int most),some (.int many),some (.ref b),some (.int one),some (.int HK),some (.ref x),some (.ref y),some (.ref n)]∧ax H3 H4∧H4 n=some (.lst [.int sa, .int ou, .int iN, .int le])∧(1≤sa∧sa≤999999)∧(0≤ou∧ou≤999999)∧(0≤iN∧iN≤999999)∧(1≤le∧le≤999999),?_,?_⟩
  ·exact⟨_,rfl,a,ns,5,rfl,Lz,ZA,fun H4 D sa ou iN le s6 hD Ja h1 h2 h3 h4=>⟨D,sa,ou,iN,le,rfl,s6,Ja,h1,h2,h3,h4⟩⟩
  rintro σ H4 ⟨n,sa,ou,iN,le,rfl,s6,Vk,h1,h2,h3,h4⟩;have s7:=s5.trans s6;have X6:=s6.seq Lz;have X7:H4 b=some (.lst (zs.map V.str)):=s6 _ _ (s4 _ _ (s2 _ _ jh));refine⟨_,rfl,_,rfl,_,rfl,_,rfl,a,ns,9,rfl,X6,ZA,_,rfl,_,rfl,b,_,rfl, .of X7,fun b5 L_=>?_⟩;have e5:B8 (zs.map V.str) none (some 5)=(zs.take 5).map V.str:=by
   have:HT.ku (zs.map V.str).length (zs.map V.str).length (some 5)=min 5 zs.length:=by
    rw[List.length_map];simp only[HT.ku];split<;>lia
   have e0:HT.ku (zs.map V.str).length 0 none=0:=by simp[HT.ku]
   unfold B8;rw[this,e0,List.drop_zero,Nat.sub_zero,←List.map_take]
   congr 1
   apply List.ext_getElem?;intro i;rw[List.getElem?_take,List.getElem?_take];by_cases hi:i<zs.length
   ·by_cases h5:i<5
    ·rw[Zp Zx,Zp h5]
    ·rw[Zm Zx,Zm h5]
   ·simp[List.getElem?_eq_none (by lia:zs.length≤i)]
  rw[e5];have s8:ax H4 (upd H4 b5 (.lst ((zs.take 5).map V.str))):=ax.upd L_;have X8:=s8 _ _ Vk;refine⟨_,rfl,n,_,0,_,rfl,rfl, .of X8,ar (j:=0) rfl,_,sa,b5,zs.take 5,rfl,ae,by simp;lia,fun z hz=>hw z (List.mem_of_mem_take hz),hn.sublist (List.take_sublist ..),h1.1,h1.2,fun H6 l us fs s9 hl Vl T6 g6=>?_⟩;have sA:=(s7.trans s8).trans s9;refine⟨aE Zu,fun r hr=>?_⟩;have sB:=ax.upd (o:= .lst [.ref x, .ref y, .ref n, .ref l]) hr;have sC:=s9.trans sB;refine q _ r ⟨xs,ys,sa,ou,iN,le,fs⟩ x y n l us (sA.trans sB) (sA.free hr) ⟨ae,?_,?_,?_,sB _ _ Vl,T6.same sB⟩ ⟨by show xs.length≤_;lia,by show ys.length≤_;lia,g6,h1,h2,h3,h4⟩
  ·exact sC _ _ (s8 _ _ (s6 _ _ (s4 _ _ xW)))
  ·exact sC _ _ (s8 _ _ (s6 _ _ X5))
  ·exact sC _ _ (s8 _ _ Vk)
theorem iQ:aK ["_law_x","_law_y","_law_same","_law_near_here","_law_old","_law_new","_law_price"] ["_law_x","_law_y","_law_same","_law_near_here"] (au lQ):=⟨rfl,rfl,rfl,by decide+kernel,rfl,by decide+kernel,by decide+kernel⟩
include T in
theorem xk{f:Addr}{fd:FuncData}(F:jn K "_law_pair" "_law_pair" lQ f fd):aZ P w K mg base (cV P w) true 1 f fd ["_law_x","_law_y","_law_same","_law_near_here"] sR:=by
 refine F.gK iQ Zv (fun bR A outer s H vs Q E hr h hX=>?_)
 ·obtain⟨x,y,same,l,xs,fs,rfl,_⟩:=h;rfl
 ·obtain⟨x,y,same,l,xs,fs,rfl,hl,T1,q⟩:=h;refine⟨_,(Ze (Zj (Zo jm (pv 0) (pv 1) (aV _)) (Zh (Zs (pv 2))) aP) (Ze (@bG _ _ _ _ _ _ _ _ hX.own Zy (@bg _ K _ _ _ (pv 3) (ZC)) (@f_ _ K _ _ _ (3) _ (by exact rfl) (@bb _ _ _ _ _ (Y6 (4) iQ.nd) (@bb _ _ _ _ _ (Y6 (5) iQ.nd) (@bb _ _ _ _ _ (Y6 (6) iQ.nd) f7 (ZC)) (ZC)) (ZC)) (ZC) (ZC) (ZC)) (Zh (Zj (@PW.pt _ _ _ (@pw_and _ _ _ _ _ _ _ (Zo jm (pv 4) (pv 0) (aV _)) (@pw_and1 _ _ _ _ (Zo jm (pv 5) (pv 1) (aV _))))) (Zh (Zs (Za bZ (pv 2) (pv 6)))) aP)) (by intro _;rfl)) (Zh (Zs jO)))),?_⟩;refine⟨_,rfl,_,rfl,rfl,_,rfl,?_⟩;refine a9 (fun h=>?_) (fun h=>?_)
  ·have h:x=y:=by simpa using h
   rw[show dB same fs x y=some same by simp[dB,h]]at q;exact⟨_,rfl,q⟩
  have h:¬x=y:=by simpa using h
  refine⟨_,rfl,l,rfl,⟨_, .of hl⟩,?_⟩;refine bU (xs:=xs) (fun i σ H'=>(∃u1 u2 u3,σ=[some (.str x),some (.str y),some (.int same),some (.ref l),u1,u2,u3])∧H'=H∧∀f∈fs.take i,¬(f.1=x∧f.2.1=y)) ⟨⟨_,_,_,rfl⟩,rfl,ZD⟩ ?_ ?_ ?_
  ·rintro i σ H' _ ⟨_,rfl,_⟩;exact .of hl
  ·rintro i v σ H' hv ⟨⟨u1,u2,u3,rfl⟩,rfl,Cp⟩;have hi:i<fs.length:=by rw[←T1.1];exact(Y' hv).1
   have hf:fs[i]?=some fs[i]:=by simp[hi]
   generalize fs[i]=f0 at hf;obtain⟨t,xU,uj⟩:=T1.2 i f0 hf;rw[hv]at xU;cases xU;obtain⟨x0,y0,p0⟩:=f0;refine⟨t,_,rfl, .of uj,rfl,_,_,rfl,_,_,rfl,_,_,rfl,rfl,?_⟩;have PM:¬(x0=x∧y0=y)→∀f∈fs.take (i+1),¬(f.1=x∧f.2.1=y):=fun eR f Vm=>by
    rw[List.take_succ,hf]at Vm;rcases List.mem_append.mp Vm with h|h
    ·exact Cp f h
    ·have h:f=(x0,y0,p0):=by simpa using h
     rw[h];exact eR
   refine⟨_,rfl,_,rfl,rfl,_,rfl,?_⟩;refine a9 (fun hh=>?_) (fun hh=>?_)
   ·have Ac:x0=x:=by simpa using hh
    refine⟨_,rfl,_,rfl,rfl,_,rfl,?_⟩;refine a9 (fun hh=>?_) (fun hh=>?_)
    ·have jh:y0=y:=by simpa using hh
     have e:dU fs x y=some p0:=rl hf Cp ⟨Ac,jh⟩;rw[show dB same fs x y=some (same-p0) by simp[dB,h,e]]at q;exact⟨_,rfl,_,rfl,_,_,rfl,rfl,q⟩
    ·have jh:¬y0=y:=by simpa using hh
     exact⟨⟨_,_,_,rfl⟩,rfl,PM fun z=>jh z.2⟩
   ·have Ac:¬x0=x:=by simpa using hh
    refine fN ?_;exact⟨⟨_,_,_,rfl⟩,rfl,PM fun z=>Ac z.1⟩
  ·rintro σ H' ⟨⟨u1,u2,u3,rfl⟩,rfl,Cp⟩;rw[T1.1,List.take_length]at Cp;have e:dU fs x y=none:=Eo Cp;rw[show dB same fs x y=none by simp[dB,h,e]]at q;exact q
variable(bJ:bK P w K mg base true 1 "_law_pair" ["_law_x","_law_y","_law_same","_law_near_here"] sR)
theorem cy:aK ["_law_case_here","_law_way","_law_total","_law_k","_law_i","_law_j","_law_gain"] ["_law_case_here","_law_way"] (au kK):=⟨rfl,rfl,rfl,by decide+kernel,rfl,by decide+kernel,by decide+kernel⟩
include T bJ in
theorem uH{f:Addr}{fd:FuncData}(F:jn K "_law_worth" "_law_worth" kK f fd):aZ P w K mg base (cV P w) true 2 f fd ["_law_case_here","_law_way"] ql:=by
 refine F.gK cy Zv (fun bR A outer s H vs Q E hr h hX=>?_)
 ·obtain⟨a,w,c,f,g,m,l,us,ws,ps,rfl,_⟩:=h;rfl
 ·obtain⟨a,w,c,x1,x2,m,l,us,ws,ps,rfl,C1,no,hw,P1,hlen,Hw,q⟩:=h;obtain⟨eR,Gx⟩:=ky Hw;have OI:0<ps.length:=List.length_pos_iff.mpr eR;have Hx:=P1.1;have kh:=C1.ca;have Z':=C1.nu;have nO:=no.out;have nI:=no.into;refine⟨_,(Ze (Y3 (2) cy.nd af) (Ze (@bG _ _ _ _ _ _ _ _ hX.own Zy (@eA _ _ _ _ _ _ (by exact rfl) T.fJ (Y4 (Y9 (aJ K) T.cP (Y4 (pv 1)))) (ZC)) (Y6 (3) cy.nd) (Ze (@ZM _ _ _ _ _ _ (Y7 (pv 1) (pv 3)) (@f_ _ K _ _ _ (2) _ (by exact rfl) (@bb _ _ _ _ _ (Y6 (4) cy.nd) (@bb _ _ _ _ _ (Y6 (5) cy.nd) f7 (ZC)) (ZC)) (ZC) (ZC) (ZC)) (ZC) (ZC) (ZC)) (Ze (Y3 (6) cy.nd (Y5 bJ aQ (Y8 (Zc (pv 4)) (Y8 (Zc (pv 5)) (Y8 (Zc af) (Y4 (Y7 (pv 0) af))))))) (Ze (Zj (Zf (@lz _ _ _ _ _ (pv 6))) (Zh (Zs jO)) aP) (Ze (Y3 (2) cy.nd (Za bp (pv 2) (pv 6))) (Zh (Zj (Zo oh (pv 3) af (aV _)) (Ze (Y3 (2) cy.nd (Za bZ (pv 2) (Za m8 (Zc af) (Za bZ (Za bZ (pv 4) (Zr (bT K) (Y7 (pv 1) (Za bZ (pv 3) af)) af)) af)))) (Zh (Y3 (2) cy.nd (Za bZ (pv 2) (Za m8 (Zc af) (Za bZ (Za bZ (pv 5) (Zr (bT K) (Y7 (pv 1) (Za bZ (pv 3) af)) af)) af)))))) aP)))))) (by intro _;rfl)) (Zh (Zs (pv 2))))),?_⟩;refine⟨_,rfl,w,_,rfl, .inl (.of hw),(ws.length:Int),rfl,Zz,Zz,?_⟩;refine fo (fun i σ H'=>(∃(u1 u2 u3 u4:Option V),σ=[some (.ref a),some (.ref w),some (.int (if i=0 then 0 else dD c ps (i-1))),u1,u2,u3,u4])∧H'=H) ⟨⟨_,_,_,_,rfl⟩,rfl⟩ ?_ ?_
  ·rintro i σ H' hi ⟨⟨u1,u2,u3,u4,rfl⟩,e0⟩;subst e0;have hi:i<ps.length:=Zz;obtain⟨tt,xU,uj⟩:=P1.Kd hi;obtain⟨wo,Qh⟩:=GN (Gx i hi);obtain⟨b1,b2⟩:=c.pw_in Qh;obtain⟨x,lg,xW⟩:=vy b1.1 b1.2;obtain⟨y,FT,Dp⟩:=vy b2.1 b2.2;have ep:c.pw (pr ps i)=dB c.same c.fs x y:=Case.pw_of lg FT;refine⟨_,rfl,_,rfl,w,_,_,_,rfl,rfl, .of hw,T9 xU,tt,_,rfl, .of uj,rfl,_,_,rfl,_,_,rfl,rfl,?_⟩;refine⟨_,rfl,a,_,0,_,rfl,rfl, .of kh,ar (j:=0) rfl,_,rfl,x1,_,_,_,rfl,rfl, .of C1.fi,xW,_,rfl,a,_,1,_,rfl,rfl, .of kh,ar (j:=1) rfl,_,rfl,x2,_,_,_,rfl,rfl, .of C1.se,Dp,_,rfl,a,_,2,_,rfl,rfl, .of kh,ar (j:=2) rfl,m,_,0,_,rfl,rfl, .of Z',ar (j:=0) rfl,_,rfl,a,_,3,_,rfl,rfl, .of kh,ar (j:=3) rfl,x,y,c.same,l,us,c.fs,rfl,C1.ne,C1.tr,?_⟩;rw[←ep,Qh];refine⟨_,rfl,_,rfl,?_⟩;refine a9 (fun hh=>absurd hh (by simp[bA])) (fun _=>?_);refine⟨_,rfl,_,rfl,_,_,rfl,rfl,?_⟩;refine⟨_,rfl,_,_,rfl,rfl,_,rfl,?_⟩;refine a9 (fun h2=>?_) (fun h2=>?_)
   ·have h2:0<i:=by
     have:(0:Int)<0+(i:Int):=by simpa using h2
     omega
    obtain⟨j,rfl⟩:∃j,i=j+1:=⟨i-1,Zz⟩
    have e1:((0+((j+1:Nat):Int))-1)=((j:Nat):Int):=Zz;obtain⟨t2,N_,Fh⟩:=P1.Kd (show j<ps.length by omega);have uk:rj ws ((0+((j+1:Nat):Int))-1)=some (.ref t2):=by rw[e1];exact ar N_
    refine⟨_,rfl,_,rfl,a,_,2,_,rfl,rfl, .of kh,ar (j:=2) rfl,m,_,1,_,rfl,rfl, .of Z',ar (j:=1) rfl,_,rfl,_,rfl,_,rfl,_,_,rfl,rfl,w,_,_,_,rfl,rfl, .of hw,uk,t2,_,0,_,rfl,rfl, .of Fh,ar (j:=0) rfl,_,_,rfl,rfl,_,_,rfl,rfl,_,_,rfl,rfl, .inl ⟨Zz,Zz⟩,_,_,rfl,rfl,?_⟩;refine⟨_,rfl,_,rfl,a,_,2,_,rfl,rfl, .of kh,ar (j:=2) rfl,m,_,2,_,rfl,rfl, .of Z',ar (j:=2) rfl,_,rfl,_,rfl,_,rfl,_,_,rfl,rfl,w,_,_,_,rfl,rfl, .of hw,uk,t2,_,1,_,rfl,rfl, .of Fh,ar (j:=1) rfl,_,_,rfl,rfl,_,_,rfl,rfl,_,_,rfl,rfl, .inl ⟨Zz,Zz⟩,_,_,rfl,rfl,⟨some (.int (0+((j+1:Nat):Int))),some (.int (pr ps (j+1)).1),some (.int (pr ps (j+1)).2),some (.int wo),?_⟩,rfl⟩;have:dD c ps (j+1)=dD c ps j+wo-c.out*((pr ps (j+1)).1-(pr ps j).1-1)-c.into*((pr ps (j+1)).2-(pr ps j).2-1):=by
     simp only[dD,Qh,Case.gap,Option.getD_some];omega
    simp only[Nat.add_sub_cancel,Nat.succ_ne_zero,if_false,this];rfl
   ·have h2:i=0:=by
     have:¬(0:Int)<0+(i:Int):=by simpa using h2
     omega
    subst h2;refine⟨⟨some (.int (0+((0:Nat):Int))),some (.int (pr ps 0).1),some (.int (pr ps 0).2),some (.int wo),?_⟩,rfl⟩;have:dD c ps 0=0+wo:=by simp[dD,Qh]
    simp only[Nat.zero_add,Nat.sub_self,Nat.one_ne_zero,if_false,this];rfl
  ·rintro σ H' ⟨⟨u1,u2,u3,u4,rfl⟩,rfl⟩;have e:((ws.length:Nat):Int).toNat=ps.length:=Zz;rw[e,if_neg Zw];exact⟨_,rfl,q⟩
variable(bF:bK P w K mg base true 1 "_law_whole" ["_law_found"] sQ)
theorem mW:aK ["_law_found","_law_pair_here"] ["_law_found"] (au kL):=⟨rfl,rfl,rfl,by decide+kernel,rfl,by decide+kernel,by decide+kernel⟩
include T bF in
theorem uI{f:Addr}{fd:FuncData}(F:jn K "_law_pairs" "_law_pairs" kL f fd):aZ P w K mg base (cV P w) true 2 f fd ["_law_found"] qk:=by
 refine F.gK mW Zv (fun bR A outer s H vs Q E hr h hX=>?_)
 ·obtain⟨a,us,ps,rfl,_⟩:=h;rfl
 ·obtain⟨a,us,ps,rfl,ha,P1,q⟩:=h;refine⟨_,(Ze (Zj (@cJ _ _ _ _ (@bY _ _ _ (Zi (fW K) T.cW PyProof.Rows.Boot.«isinstance» (Y8 (pv 0) (Y4 (@jl _ _ (.ty "list") _ _ (by exact rfl) T.jQ PyProof.Rows.Boot.«list» Zy (ZA) (ZA))))) (by intro _;rfl))) (Zh (Zs dO)) aP) (Ze (@bG _ _ _ _ _ _ _ _ hX.own Zy (@bg _ K _ _ _ (pv 0) (ZC)) (Y6 (1) mW.nd) (Ze (Zj (@PW.pt _ _ _ (@pw_or _ _ _ _ _ _ _ (@cJ _ _ _ _ (@bY _ _ _ (Zi (fW K) T.cW PyProof.Rows.Boot.«isinstance» (Y8 (pv 1) (Y4 (@jl _ _ (.ty "tuple") _ _ (by exact rfl) T.Gz PyProof.Rows.Boot.«tuple» Zy (ZA) (ZA))))) (by intro _;rfl))) (@pw_or1 _ _ _ _ (Zo u_ (Y9 (aJ K) T.cP (Y4 (pv 1))) af (aV _))))) (Zh (Zs dO)) aP) (Zh (Zj (@PW.pt _ _ _ (@pw_or _ _ _ _ _ _ _ (@cJ _ _ _ _ (@bY _ _ _ (Y5 bF aQ (Y4 (Zr (bT K) (pv 1) af))) (by intro _;rfl))) (@pw_or1 _ _ _ _ (@cJ _ _ _ _ (@bY _ _ _ (Y5 bF aQ (Y4 (Zr (bT K) (pv 1) af))) (by intro _;rfl)))))) (Zh (Zs dO)) aP))) (by intro _;rfl)) (Zh (Zs dO)))),?_⟩;refine⟨_,rfl,_,_,_,true,_,rfl,rfl, .lst ha,rfl,_,rfl,?_⟩;refine fN ?_;refine⟨_,rfl,a,rfl,⟨_, .of ha⟩,?_⟩;refine bU (xs:=us) (fun i σ H'=>(∃u,σ=[some (.ref a),u])∧H'=H) ⟨⟨_,rfl⟩,rfl⟩ ?_ ?_ ?_
  ·rintro i σ H' _ ⟨_,rfl⟩;exact .of ha
  ·rintro i v σ H' hv ⟨⟨u,rfl⟩,rfl⟩;have hi:i<ps.length:=by rw[←P1.1];exact(Y' hv).1
   obtain⟨t,xU,uj⟩:=P1.Kd hi;rw[hv]at xU;cases xU;refine⟨_,rfl,_,_,_,true,_,rfl,rfl, .tup uj,rfl,_,rfl,?_⟩;refine fN ?_;refine⟨_,rfl,t,_,rfl, .inr (.of uj),rfl,_,rfl,?_⟩;refine a9 (fun hh=>absurd hh Zu) (fun _=>?_);refine⟨_,rfl,t,_,0,_,rfl,rfl, .of uj,ar (j:=0) rfl,_,rfl,_,rfl,?_⟩;refine fN ?_;refine⟨_,rfl,t,_,1,_,rfl,rfl, .of uj,ar (j:=1) rfl,_,rfl,_,rfl,?_⟩;refine fN ?_;exact⟨⟨_,rfl⟩,rfl⟩
  ·rintro σ H' ⟨⟨u,rfl⟩,rfl⟩;exact q
variable(pe:mQ P w K mg base true 5 "Terms" aU ["self","same","out","into","least","part","near"] [] (sg aU dZ cS))
theorem mY:aK ["_law_case_here","_law_n"] ["_law_case_here"] (au kM):=⟨rfl,rfl,rfl,by decide+kernel,rfl,by decide+kernel,by decide+kernel⟩
include T pe in
theorem uJ{f:Addr}{fd:FuncData}(F:jn K "_law_terms" "_law_terms" kM f fd):aZ P w K mg base (cV P w) true 7 f fd ["_law_case_here"] (qj aU):=by
 refine F.gK mY Zv (fun bR A outer s H vs Q E hr h hX=>?_)
 ·obtain⟨a,c,f,g,m,l,us,most,rfl,_⟩:=h;rfl
 ·obtain⟨a,c,x1,x2,m,l,us,most,rfl,C1,ok,q⟩:=h;refine⟨_,(Ze (Y3 (1) mY.nd (Y7 (pv 0) af)) (Zh (Zs (@sf _ _ _ _ _ _ _ _ _ _ _ _ _ _ pe (hr.mono (ZA)) hX.pass (Y8 (Y7 (pv 1) af) (Y8 (Y7 (pv 1) af) (Y8 (Y7 (pv 1) af) (Y8 (Y7 (pv 1) af) (Y8 af (Y4 (@fV _ _ _ _ _ _ _ _ _ (fD K) (by exact rfl) T.jQ PyProof.Rows.Boot.«list» (Y4 (Y7 (pv 0) af)) (ZA) (ZA) (ZC) (ZC)))))))) (ZC) (ZA) (ZC) (ZC))))),?_⟩;have Z':=C1.nu;have kh:=C1.ca;refine⟨_,rfl,a,_,2,_,rfl,rfl, .of kh,ar (j:=2) rfl,?_⟩;refine⟨_,rfl,m,_,0,_,rfl,rfl, .of Z',ar (j:=0) rfl,_,rfl,m,_,1,_,rfl,rfl, .of Z',ar (j:=1) rfl,_,rfl,m,_,2,_,rfl,rfl, .of Z',ar (j:=2) rfl,_,rfl,m,_,3,_,rfl,rfl, .of Z',ar (j:=3) rfl,_,rfl,a,_,3,_,rfl,rfl, .of kh,ar (j:=3) rfl,l,us,rfl, .inl (.of C1.ne),fun h hh=>fun x dx hx Ep eR=>?_⟩;have s5:ax (upd H h (.lst us)) (upd (upd (upd H h (.lst us)) dx (.own x)) x (.ins aU dx [])):=(ax.upd Ep).ft hx;have s4:ax H (upd H h (.lst us)):=ax.upd hh;refine⟨x,dx,⟨c.same,c.out,c.into,c.least,50⟩, .ref h,us,c.fs,rfl,ae,by rw[ak eR];exact ae, .inr ⟨h,rfl,s5 _ _ ae,C1.tr.same (s4.trans s5)⟩,Z_ ok.good,?_⟩;have X9:i6 ⟨c.same,c.out,c.into,c.least,50⟩=true:=by
   have:=ok.same;have:=ok.out;have:=ok.into;have:=ok.least;simp[i6,inR];omega
  rw[Zp X9,Zp ok.good];intro H6 l2 d sb T6 Vl YY;exact⟨rfl,q H6 x (s4.trans (SameBut.ZI hx Ep sb)) ⟨_,dx,l2,d,us,T6,rfl,rfl,rfl,rfl⟩⟩
theorem du:aK ["_law_case_here","_law_many","_law_x","_law_y","_law_each","_law_same","_law_least"] ["_law_case_here"] (au lR):=⟨rfl,rfl,rfl,by decide+kernel,rfl,by decide+kernel,by decide+kernel⟩
include T bJ in
theorem xl{f:Addr}{fd:FuncData}(F:jn K "_law_calm" "_law_calm" lR f fd):aZ P w K mg base (cV P w) true 2 f fd ["_law_case_here"] w_:=by
 refine F.gK du Zv (fun bR A outer s H vs Q E hr h hX=>?_)
 ·obtain⟨a,c,f,g,m,l,us,rfl,_⟩:=h;rfl
 ·obtain⟨a,c,x1,x2,m,l,us,rfl,C1,ok,q⟩:=h;refine⟨_,(Zl (Y3 (1) du.nd af) (Zl (@bG _ _ _ _ _ _ _ _ hX.own Zy (@bg _ K _ _ _ (Y7 (pv 0) af) (ZC)) (Y6 (2) du.nd) (Zh (@bG _ _ _ _ _ _ _ _ hX.own Zy (@bg _ K _ _ _ (Y7 (pv 0) af) (ZC)) (Y6 (3) du.nd) (Zh (Y3 (1) du.nd (Za bp (pv 1) (@fV _ _ _ _ _ _ _ _ _ qc Zy T.Ba PyProof.Rows.Boot.«int» (Y4 (@ZJ _ _ _ _ _ _ (@oa _ _ _ _ _ (Y5 bJ aQ (Y8 (pv 2) (Y8 (pv 3) (Y8 (Zc af) (Y4 (Y7 (pv 0) af))))))) (by first|exact bh _ (ZA) (ZA)|rfl))) (ZA) (ZA) (ZC) (ZC))))) (by intro _;rfl))) (by intro _;rfl)) (Zl (Y3 (4) du.nd (Za bp (Za dS (pv 1) af) af)) (Zl (Y3 (5) du.nd (Zi (l_ rfl) T.Bb PyProof.Rows.Boot.«min» (Y8 (Zc af) (Y4 (Za dS af (pv 4)))))) (Zl (Y3 (6) du.nd (Zi (BV rfl) T.Il PyProof.Rows.Boot.«max» (Y8 (Zc af) (Y4 (Za bp (Za m8 (Za bZ (pv 4) af) (pv 5)) af))))) (Zh (Zs (@bI _ _ _ _ (Y8 (Y7 (pv 0) af) (Y8 (Y7 (pv 0) af) (Y8 (@bI _ _ _ _ (Y8 (pv 5) (Y8 (Zc af) (Y8 (Zc af) (Y4 (pv 6)))))) (Y4 (Y7 (pv 0) af))))))))))))),?_⟩;have kh:=C1.ca;have Z':=C1.nu;have lx:(c.xs.map V.str).length=c.xs.length:=List.length_map ..;have ly:(c.ys.map V.str).length=c.ys.length:=List.length_map ..;refine⟨fun σ H1=>H1=H∧σ=[some (.ref a),some (.int 0),none,none,none,none,none],⟨rfl,rfl⟩,?_⟩;rintro σ H1 ⟨rfl,rfl⟩;refine⟨fun σ H2=>H2=H1∧∃u v,σ=[some (.ref a),some (.int (manyN c c.xs.length:Nat)),u,v,none,none,none],?_,?_⟩
  ·refine⟨_,rfl,a,_,0,_,rfl,rfl, .of kh,ar (j:=0) rfl,x1,rfl,⟨_, .of C1.fi⟩,?_⟩;refine bU (xs:=c.xs.map V.str) (fun i σ H2=>H2=H1∧∃u v,σ=[some (.ref a),some (.int (manyN c i:Nat)),u,v,none,none,none]) ⟨rfl,_,_,rfl⟩ ?_ ?_ ?_
   ·rintro i σ H2 _ ⟨rfl,_⟩;exact .of C1.fi
   ·rintro i v σ H2 hv ⟨rfl,u1,u2,rfl⟩;obtain⟨wx,Qb,rfl⟩:=mh hv;refine⟨_,rfl,a,_,1,_,rfl,rfl, .of kh,ar (j:=1) rfl,x2,rfl,⟨_, .of C1.se⟩,?_⟩;refine bU (xs:=c.ys.map V.str) (fun j σ H3=>H3=H2∧∃v,σ=[some (.ref a),some (.int (manyN c i+Fo c i j:Nat)),some (.str wx),v,none,none,none]) ⟨rfl,_,rfl⟩ ?_ ?_ ?_
    ·rintro j σ H3 _ ⟨rfl,_⟩;exact .of C1.se
    ·rintro j v σ H3 Qe ⟨rfl,u3,rfl⟩;obtain⟨wy,Dr,rfl⟩:=mh Qe;have Ss:c.pw (aR (i,j))=dB c.same c.fs wx wy:=Case.pw_of (by rw[show(aR (i,j)).1=(i:Int)from rfl,sT];exact Qb) (by rw[show(aR (i,j)).2=(j:Int)from rfl,sT];exact Dr);refine⟨_,rfl,_,rfl,_,rfl,_,rfl,a,_,2,_,rfl,rfl, .of kh,ar (j:=2) rfl,m,_,0,_,rfl,rfl, .of Z',ar (j:=0) rfl,_,rfl,a,_,3,_,rfl,rfl, .of kh,ar (j:=3) rfl,wx,wy,c.same,l,us,c.fs,rfl,C1.ne,C1.tr, .inr ⟨_,rfl,_,_,rfl,rfl,rfl,some (.str wy),?_⟩⟩;rw[CJ,Ss];cases dB c.same c.fs wx wy<;>simp[bA,List.set]<;>omega
    ·rintro σ H3 ⟨rfl,u3,rfl⟩;rw[ly];exact⟨rfl,_,_,rfl⟩
   ·rintro σ H2 ⟨rfl,u1,u2,rfl⟩;rw[lx];exact⟨rfl,_,_,rfl⟩
  rintro σ H1 ⟨rfl,u,v,rfl⟩;have Vn:manyN c c.xs.length≤3600:=by
   have:=BG c c.xs.length;have h2:=Nat.mul_le_mul ok.x ok.y;omega
  have ee:((manyN c c.xs.length:Nat):Int)/21+1=(bV c:Int):=by unfold bV;omega
  have he:(1:Int)≤bV c∧(bV c:Int)≤172:=by unfold bV;omega
  refine⟨fun σ H2=>H2=H1∧σ=[some (.ref a),some (.int (manyN c c.xs.length:Nat)),u,v,some (.int (bV c)),none,none],⟨_,rfl,_,_,rfl,rfl,⟨ZA,ZA⟩,_,_,rfl,rfl,rfl,by rw[ee];rfl⟩,?_⟩;rintro σ H1 ⟨rfl,rfl⟩;have es:(if 999999/(bV c:Int)<c.same then 999999/(bV c:Int)else c.same)=eJ c:=by unfold eJ;split<;>omega
  refine⟨fun σ H2=>H2=H1∧σ=[some (.ref a),some (.int (manyN c c.xs.length:Nat)),u,v,some (.int (bV c)),some (.int (eJ c)),none],⟨_,rfl,a,_,2,_,rfl,rfl, .of kh,ar (j:=2) rfl,m,_,0,_,rfl,rfl, .of Z',ar (j:=0) rfl,_,rfl,_,_,rfl,rfl,⟨Zz,Zz⟩,_,_,rfl,rfl,by rw[es];rfl⟩,?_⟩;rintro σ H1 ⟨rfl,rfl⟩;have s1:1≤eJ c∧eJ c≤999999:=by
   have:=(BH ok Zw).same;exact this
  have el:(if ((bV c:Int)-1)*eJ c+1>c.least then((bV c:Int)-1)*eJ c+1 else c.least)=(gf c).least:=by show _=max c.least _;split<;>omega
  refine⟨fun σ H2=>H2=H1∧σ=[some (.ref a),some (.int (manyN c c.xs.length:Nat)),u,v,some (.int (bV c)),some (.int (eJ c)),some (.int (gf c).least)],⟨_,rfl,a,_,2,_,rfl,rfl, .of kh,ar (j:=2) rfl,m,_,3,_,rfl,rfl, .of Z',ar (j:=3) rfl,_,rfl,_,_,rfl,rfl,_,rfl,_,_,rfl,rfl, .inl ⟨Zz,Zz⟩,_,_,rfl,rfl,_,_,rfl,rfl,by rw[el];rfl⟩,?_⟩;rintro σ H1 ⟨rfl,rfl⟩;refine⟨_,rfl,a,_,0,_,rfl,rfl, .of kh,ar (j:=0) rfl,_,rfl,a,_,1,_,rfl,rfl, .of kh,ar (j:=1) rfl,_,rfl,_,rfl,a,_,2,_,rfl,rfl, .of kh,ar (j:=2) rfl,m,_,1,_,rfl,rfl, .of Z',ar (j:=1) rfl,_,rfl,a,_,2,_,rfl,rfl, .of kh,ar (j:=2) rfl,m,_,2,_,rfl,rfl, .of Z',ar (j:=2) rfl,_,rfl,aE Zu,fun m' zN=>?_⟩;have sm:=ax.upd (o:= .lst [.int (eJ c), .int c.out, .int c.into, .int (gf c).least]) zN;have LA:=sm _ _ kh;refine⟨_,rfl,a,_,3,_,rfl,rfl, .of LA,ar (j:=3) rfl,aE Zu,fun b hb=>?_⟩;have sb:=ax.upd (o:= .lst [.ref x1, .ref x2, .ref m', .ref l]) hb;have sA:=sm.trans sb;exact q _ b m' sA (sm.free hb) ae ⟨ae,sA _ _ C1.fi,sA _ _ C1.se,sb _ _ ae,sA _ _ C1.ne,C1.tr.same sA⟩
variable(dw:bK P w K mg base true 2 "_law_pairs" ["_law_found"] qk)
theorem k8:aK ["_law_found","_law_told"] ["_law_found"] (au gq):=⟨rfl,rfl,rfl,by decide+kernel,rfl,by decide+kernel,by decide+kernel⟩
include T Fc bF dw in
theorem rV{f:Addr}{fd:FuncData}(F:jn K "_law_finding" "_law_finding" gq f fd):aZ P w K mg base (cV P w) true 3 f fd ["_law_found"] (tM ay):=by
 refine F.gK k8 Zv (fun bR A outer s H vs Q E hr h hX=>?_)
 ·obtain⟨y,P,d,dy,wy,rw,pr,kZ,ik,rfl,_⟩:=h;rfl
 ·obtain⟨y,P,d,dy,wy,ic,pr,kZ,ik,rfl,F,hl,eR,q⟩:=h;have hu:=hr.units;have HA:(A.deeper (PyProof.Rows.envOfC "_law_finding" (au gq) s.heap.objs.size f bR)).units<cLine:=Zz;refine⟨_,(Ze (Zj (@PW.pt _ _ _ (@pw_or _ _ _ _ _ _ _ (@cJ _ _ _ _ (@bY _ _ _ (Y5 bF aQ (Y4 (Y_ K (pv 0)))) (by intro _;rfl))) (@pw_or _ _ _ _ _ _ _ (@cJ _ _ _ _ (@bY _ _ _ (Y5 dw aQ (Y4 (Y_ K (pv 0)))) (by intro _;rfl))) (@pw_or1 _ _ _ _ (@cJ _ _ _ _ (@bY _ _ _ (Y5 dw aQ (Y4 (Y_ K (pv 0)))) (by intro _;rfl))))))) (Zh (Zs dO)) aP) (Ze (Zj (@PW.pt _ _ _ (@pw_or _ _ _ _ _ _ _ (@cJ _ _ _ _ (@bY _ _ _ (Zi (fW K) T.cW PyProof.Rows.Boot.«isinstance» (Y8 (Y_ K (pv 0)) (Y4 (@jl _ _ (.ty "list") _ _ (by exact rfl) T.jQ PyProof.Rows.Boot.«list» Zy (ZA) (ZA))))) (by intro _;rfl))) (@pw_or _ _ _ _ _ _ _ (Zo u_ (Y9 (aJ K) T.cP (Y4 (Y_ K (pv 0)))) (Y9 (aJ K) T.cP (Y4 (Y_ K (pv 0)))) (aV _)) (@pw_or1 _ _ _ _ (Zo (yu K HA) (Y_ K (pv 0)) (@bI _ _ _ _ ai) (aV _)))))) (Zh (Zs dO)) aP) (Ze (@bG _ _ _ _ _ _ _ _ hX.own Zy (@bg _ K _ _ _ (Y_ K (pv 0)) (ZC)) (Y6 (1) k8.nd) (Zh (Zj (@cJ _ _ _ _ (@bY _ _ _ (Y5 bF aQ (Y4 (pv 1))) (by intro _;rfl))) (Zh (Zs dO)) aP)) (by intro _;rfl)) (Zh (Zs dO))))),?_⟩;have h1:kZ≠[]:=fun z=>eR (List.length_eq_zero_iff.mp (by rw[←F.pw.1,z];rfl))
  refine⟨_,rfl,y,ay,dy,_,_,rfl,F.ob,Fc.cl,Fc.worth,gc d.worth wy ic pr,_,rfl,_,rfl,?_⟩;refine fN ?_;refine⟨_,rfl,y,ay,dy,_,_,rfl,F.ob,Fc.cl,Fc.way,qx d.worth wy ic pr,wy,kZ,d.way,rfl,F.hw,F.pw,_,rfl,?_⟩;refine fN ?_;refine⟨_,rfl,y,ay,dy,_,_,rfl,F.ob,Fc.cl,Fc.pairs,ij d.worth wy ic pr,pr,ik,d.pairs,rfl,F.hp,F.pp,_,rfl,?_⟩;refine fN ?_;refine⟨_,rfl,y,ay,dy,_,_,rfl,F.ob,Fc.cl,Fc.row,Ak d.worth wy ic pr,_,_,_,true,_,rfl,rfl, .lst F.hr,rfl,_,rfl,?_⟩;refine fN ?_;refine⟨_,rfl,y,ay,dy,_,_,rfl,F.ob,Fc.cl,Fc.row,Ak d.worth wy ic pr,ic,_,rfl, .inl (.of F.hr),_,rfl,y,ay,dy,_,_,rfl,F.ob,Fc.cl,Fc.way,qx d.worth wy ic pr,wy,_,rfl, .inl (.of F.hw),rfl,_,rfl,?_⟩;have h2:(d.row.map V.int).length=kZ.length:=by rw[List.length_map,hl,F.pw.1]
  rw[h2];refine a9 (fun hh=>absurd hh Zu) (fun _=>?_);refine⟨_,rfl,y,ay,dy,_,_,rfl,F.ob,Fc.cl,Fc.way,qx d.worth wy ic pr,aE Zu,fun e he=>⟨wy,e,kZ,[],fun _=>true,rfl,rfl, .of (ax.upd he _ _ F.hw), .of ae,(fun j x y _ h=>by simp at h),_,rfl,?_⟩⟩;refine a9 (fun hh=>absurd hh (by simpa using h1)) (fun _=>?_);have s1:=ax.upd (o:= .lst []) he;generalize upd H e (.lst [])=H1 at s1;refine⟨_,rfl,y,ay,dy,_,_,rfl,s1 _ _ F.ob,Fc.cl,Fc.row,Ak d.worth wy ic pr,ic,rfl,⟨_, .of (s1 _ _ F.hr)⟩,?_⟩;refine bU (xs:=d.row.map V.int) (fun i σ H'=>(∃u,σ=[some (.ref y),u])∧H'=H1) ⟨⟨_,rfl⟩,rfl⟩ ?_ ?_ ?_
  ·rintro i σ H' _ ⟨_,rfl⟩;exact .of (s1 _ _ F.hr)
  ·rintro i v σ H' hv ⟨⟨u,rfl⟩,rfl⟩;rw[List.getElem?_map]at hv;obtain⟨z,_,rfl⟩:=Option.map_eq_some_iff.mp hv;refine⟨_,rfl,_,rfl,_,rfl,?_⟩;refine fN ?_;exact⟨⟨_,rfl⟩,rfl⟩
  ·rintro σ H' ⟨⟨u,rfl⟩,rfl⟩;exact q _ s1
theorem gA:aK ["_law_case_here","_law_way","_law_k","_law_i","_law_j"] ["_law_case_here","_law_way"] (au g7):=⟨rfl,rfl,rfl,by decide+kernel,rfl,by decide+kernel,by decide+kernel⟩
include T bJ in
theorem tU{f:Addr}{fd:FuncData}(F:jn K "_law_is_way" "_law_is_way" g7 f fd):aZ P w K mg base (cV P w) true 2 f fd ["_law_case_here","_law_way"] sV:=by
 refine F.gK gA Zv (fun bR A outer s H vs Q E hr h hX=>?_)
 ·obtain⟨a,w,c,f,g,m,l,us,ws,ps,rfl,_⟩:=h;rfl
 ·obtain⟨a,w,c,x1,x2,m,l,us,ws,ps,rfl,C1,hw,P1,hlen,q⟩:=h;have hu:=hr.units;have HA:(A.deeper (PyProof.Rows.envOfC "_law_is_way" (au g7) s.heap.objs.size f bR)).units<cLine:=Zz;have Hx:=P1.1;have kh:=C1.ca;have Z':=C1.nu;have lx:(c.xs.map V.str).length=c.xs.length:=List.length_map ..;have ly:(c.ys.map V.str).length=c.ys.length:=List.length_map ..;refine⟨_,(Ze (@bG _ _ _ _ _ _ _ _ hX.own Zy (@eA _ _ _ _ _ _ (by exact rfl) T.fJ (Y4 (Y9 (aJ K) T.cP (Y4 (pv 1)))) (ZC)) (Y6 (2) gA.nd) (Ze (@ZM _ _ _ _ _ _ (Y7 (pv 1) (pv 2)) (@f_ _ K _ _ _ (2) _ (by exact rfl) (@bb _ _ _ _ _ (Y6 (3) gA.nd) (@bb _ _ _ _ _ (Y6 (4) gA.nd) f7 (ZC)) (ZC)) (ZC) (ZC) (ZC)) (ZC) (ZC) (ZC)) (Ze (Zj (@PW.pt _ _ _ (@pw_or _ _ _ _ _ _ _ (Zo mP (pv 3) af (aV _)) (@pw_or _ _ _ _ _ _ _ (Zo mP (pv 4) af (aV _)) (@pw_or _ _ _ _ _ _ _ (Zo ye (pv 3) (Y9 (aJ K) T.cP (Y4 (Y7 (pv 0) af))) (aV _)) (@pw_or1 _ _ _ _ (Zo ye (pv 4) (Y9 (aJ K) T.cP (Y4 (Y7 (pv 0) af))) (aV _))))))) (Zh (Zs dO)) aP) (Ze (Zj (Zf (@lz _ _ _ _ _ (Y5 bJ aQ (Y8 (Zc (pv 3)) (Y8 (Zc (pv 4)) (Y8 (Zc af) (Y4 (Y7 (pv 0) af)))))))) (Zh (Zs dO)) aP) (Zh (Zj (@PW.pt _ _ _ (@pw_and _ _ _ _ _ _ _ (Zo oh (pv 2) af (aV _)) (@pw_and1 _ _ _ _ (@PW.pt _ _ _ (@pw_or _ _ _ _ _ _ _ (Zo AX (pv 3) (Zr (bT K) (Y7 (pv 1) (Za bZ (pv 2) af)) af) (aV _)) (@pw_or1 _ _ _ _ (Zo AX (pv 4) (Zr (bT K) (Y7 (pv 1) (Za bZ (pv 2) af)) af) (aV _)))))))) (Zh (Zs dO)) aP))))) (by intro _;rfl)) (Zh (Zs (@iE _ _ _ _ _ _ _ _ (ni K HA) (pv 1) (@bI _ _ _ _ ai) (aV _))))),?_⟩;refine⟨_,rfl,w,_,rfl, .inl (.of hw),(ws.length:Int),rfl,Zz,Zz,?_⟩;refine fo (fun i σ H'=>(∃(u1 u2 u3:Option V),σ=[some (.ref a),some (.ref w),u1,u2,u3])∧H'=H∧lF c ps i) ⟨⟨_,_,_,rfl⟩,rfl,fun k hk=>Zz⟩ ?_ ?_
  ·rintro i σ H' hi ⟨⟨u1,u2,u3,rfl⟩,e0,Gx⟩;subst e0;have hi:i<ps.length:=Zz;obtain⟨tt,xU,uj⟩:=P1.Kd hi;have bad:dA c ps i=false→Q (.bl false) H':=fun e=>by
    have:=q H' (.refl _);rw[Et hi e]at this;exact this
   have FC:c.pw (pr ps i)=none→Q (.bl false) H':=fun e=>bad (by simp[dA,e])
   refine⟨_,rfl,_,rfl,w,_,_,_,rfl,rfl, .of hw,T9 xU,tt,_,rfl, .of uj,rfl,_,_,rfl,_,_,rfl,rfl,?_⟩;refine⟨_,rfl,_,_,rfl,rfl,_,rfl,?_⟩;refine a9 (fun h1=>?_) (fun h1=>?_)
   ·have h1:(pr ps i).1<0:=by simpa using h1
    refine jP ?_;exact FC (Case.pw_out Zw)
   have h1:¬(pr ps i).1<0:=by simpa using h1
   refine⟨_,rfl,_,_,rfl,rfl,_,rfl,?_⟩;refine a9 (fun h2=>?_) (fun h2=>?_)
   ·have h2:(pr ps i).2<0:=by simpa using h2
    refine jP ?_;exact FC (Case.pw_out Zw)
   have h2:¬(pr ps i).2<0:=by simpa using h2
   refine⟨_,rfl,_,rfl,a,_,0,_,rfl,rfl, .of kh,ar (j:=0) rfl,x1,_,rfl, .inl (.of C1.fi),_,_,rfl,rfl,_,rfl,?_⟩;rw[lx];refine a9 (fun h3=>?_) (fun h3=>?_)
   ·have h3:(c.xs.length:Int)≤(pr ps i).1:=by simpa using h3
    refine jP ?_;exact FC (Case.pw_out Zw)
   have h3:¬(c.xs.length:Int)≤(pr ps i).1:=by simpa using h3
   refine⟨_,rfl,_,rfl,a,_,1,_,rfl,rfl, .of kh,ar (j:=1) rfl,x2,_,rfl, .inl (.of C1.se),_,_,rfl,rfl,_,rfl,?_⟩;rw[ly];refine a9 (fun h4=>?_) (fun h4=>?_)
   ·have h4:(c.ys.length:Int)≤(pr ps i).2:=by simpa using h4
    exact FC (Case.pw_out Zw)
   have h4:¬(c.ys.length:Int)≤(pr ps i).2:=by simpa using h4
   obtain⟨x,lg,xW⟩:=vy (xs:=c.xs) (i:=(pr ps i).1) (Zz) (Zz);obtain⟨y,FT,Dp⟩:=vy (xs:=c.ys) (i:=(pr ps i).2) (Zz) (Zz);have ep:c.pw (pr ps i)=dB c.same c.fs x y:=Case.pw_of lg FT;refine⟨_,rfl,a,_,0,_,rfl,rfl, .of kh,ar (j:=0) rfl,_,rfl,x1,_,_,_,rfl,rfl, .of C1.fi,xW,_,rfl,a,_,1,_,rfl,rfl, .of kh,ar (j:=1) rfl,_,rfl,x2,_,_,_,rfl,rfl, .of C1.se,Dp,_,rfl,a,_,2,_,rfl,rfl, .of kh,ar (j:=2) rfl,m,_,0,_,rfl,rfl, .of Z',ar (j:=0) rfl,_,rfl,a,_,3,_,rfl,rfl, .of kh,ar (j:=3) rfl,x,y,c.same,l,us,c.fs,rfl,C1.ne,C1.tr,_,rfl,?_⟩;rw[←ep];refine a9 (fun h5=>?_) (fun h5=>?_)
   ·refine FC ?_;cases e:c.pw (pr ps i)with
    |none=>rfl
    |some v=>rw[e]at h5;simp[bA]at h5
   have h5:(c.pw (pr ps i)).isSome=true:=by
    cases e:c.pw (pr ps i)with
    |none=>rw[e]at h5;simp[bA]at h5
    |some v=>rfl
   refine⟨_,rfl,_,_,rfl,rfl,_,rfl,?_⟩;refine a9 (fun h6=>?_) (fun h6=>?_)
   rotate_left
   ·have h6:i=0:=by
     have:¬(0:Int)<0+(i:Int):=by simpa using h6
     omega
    refine fN ?_;exact⟨⟨_,_,_,rfl⟩,rfl,Gx.next (by simp[dA,h5,h6]at h5⊢;exact h5)⟩
   have h6:0<i:=by
    have:(0:Int)<0+(i:Int):=by simpa using h6
    omega
   obtain⟨j,rfl⟩:∃j,i=j+1:=⟨i-1,Zz⟩
   have e1:((0+((j+1:Nat):Int))-1)=((j:Nat):Int):=Zz;obtain⟨t2,N_,Fh⟩:=P1.Kd (show j<ps.length by omega);have uk:rj ws ((0+((j+1:Nat):Int))-1)=some (.ref t2):=by rw[e1];exact ar N_
   refine⟨_,rfl,_,rfl,_,rfl,_,_,rfl,rfl,w,_,_,_,rfl,rfl, .of hw,uk,t2,_,0,_,rfl,rfl, .of Fh,ar (j:=0) rfl,_,_,rfl,rfl,_,rfl,?_⟩;refine a9 (fun h7=>?_) (fun h7=>?_)
   ·have h7:(pr ps (j+1)).1≤(pr ps j).1:=by simpa using h7
    refine jP ?_;refine bad ?_;have:stepOk (pr ps j) (pr ps (j+1))=false:=by simp[stepOk];omega
    simp[dA,this]
   have h7:¬(pr ps (j+1)).1≤(pr ps j).1:=by simpa using h7
   refine⟨_,rfl,_,rfl,_,rfl,_,_,rfl,rfl,w,_,_,_,rfl,rfl, .of hw,uk,t2,_,1,_,rfl,rfl, .of Fh,ar (j:=1) rfl,_,_,rfl,rfl,_,rfl,?_⟩;refine a9 (fun h8=>?_) (fun h8=>?_)
   ·have h8:(pr ps (j+1)).2≤(pr ps j).2:=by simpa using h8
    refine bad ?_;have:stepOk (pr ps j) (pr ps (j+1))=false:=by simp[stepOk];omega
    simp[dA,this]
   have h8:¬(pr ps (j+1)).2≤(pr ps j).2:=by simpa using h8
   refine⟨⟨_,_,_,rfl⟩,rfl,Gx.next ?_⟩;have:stepOk (pr ps j) (pr ps (j+1))=true:=by simp[stepOk];omega
   simp[dA,h5,this]
  ·rintro σ H' ⟨⟨u1,u2,u3,rfl⟩,e0,Gx⟩;subst e0;have e:((ws.length:Nat):Int).toNat=ps.length:=Zz;rw[e]at Gx;refine⟨_,rfl,aE Zu,fun pn HJ=>⟨w,pn,_,rfl,rfl, .of (ax.upd HJ _ _ hw), .of ae,?_⟩⟩;have hq:=q _ (ax.upd (o:= .lst []) HJ);by_cases hz:ps=[]
   ·subst hz;have:ws=[]:=List.length_eq_zero_iff.mp Hx;subst this;exact hq
   ·rw[mi hz Gx]at hq;have:ws≠[]:=fun z=>hz (by subst z;exact List.length_eq_zero_iff.mp Hx.symm)
    have:(!ws.isEmpty)=true:=by simpa using this
    rw[this];exact hq
theorem fG:aK ["_law_case_here","_law_shut","_law_found","_law_i","_law_j","_law_gain"] ["_law_case_here","_law_shut"] (au iK):=⟨rfl,rfl,rfl,by decide+kernel,rfl,by decide+kernel,by decide+kernel⟩
include T bJ in
theorem uK{f:Addr}{fd:FuncData}(F:jn K "_law_spots" "_law_spots" iK f fd):aZ P w K mg base (cV P w) true 2 f fd ["_law_case_here","_law_shut"] tL:=by
 refine F.gK fG Zv (fun bR A outer s H vs Q E hr h hX=>?_)
 ·obtain⟨a,s0,c,f,g,m,l,us,ws,sh,rfl,_⟩:=h;rfl
 ·obtain⟨a,s0,c,x1,x2,m,l,us,ws,sh,rfl,C1,hs,P1,hx,hy,q⟩:=h;have hu:=hr.units;have hu:(A.deeper (PyProof.Rows.envOfC "_law_spots" (au iK) s.heap.objs.size f bR)).units+1<cLine:=Zz;have lx:(c.xs.map V.str).length=c.xs.length:=List.length_map ..;have ly:(c.ys.map V.str).length=c.ys.length:=List.length_map ..;refine⟨_,(Ze (Y3 (2) fG.nd (@bI _ _ _ _ ai)) (Ze (@bG _ _ _ _ _ _ _ _ hX.own Zy (@eA _ _ _ _ _ _ (by exact rfl) T.fJ (Y4 (Y9 (aJ K) T.cP (Y4 (Y7 (pv 0) af)))) (ZC)) (Y6 (3) fG.nd) (Zh (@bG _ _ _ _ _ _ _ _ hX.own Zy (@eA _ _ _ _ _ _ (by exact rfl) T.fJ (Y4 (Y9 (aJ K) T.cP (Y4 (Y7 (pv 0) af)))) (ZC)) (Y6 (4) fG.nd) (Ze (Y3 (5) fG.nd (Y5 bJ aQ (Y8 (Zc (pv 3)) (Y8 (Zc (pv 4)) (Y8 (Zc af) (Y4 (Y7 (pv 0) af))))))) (Zh (Zj (@PW.pt _ _ _ (@pw_and _ _ _ _ _ _ _ (Zf (@oa _ _ _ _ _ (pv 5))) (@pw_and1 _ _ _ _ (Zo (mV K hu) (@eV _ _ _ _ _ (Y8 (pv 3) (Y4 (pv 4)))) (pv 1) (by with_unfolding_all rfl))))) (Zh (@a8 _ _ _ _ (Zd K PySem.F.plainAttrs_list PySem.F.slot_list_append PySem.F.type_list_append bQ (pv 2) (Y4 (@eV _ _ _ _ _ (Y8 (pv 3) (Y8 (pv 4) (Y4 (pv 5))))))) (ZC))) aP))) (by intro _;rfl))) (by intro _;rfl)) (Zh (Zs (pv 2))))),?_⟩;refine⟨aE Zu,fun b hb=>?_⟩;have C2:=C1.keep (ax.upd (o:= .lst []) hb);refine⟨_,rfl,a,_,0,_,rfl,rfl, .of C2.ca,ar (j:=0) rfl,x1,_,rfl, .inl (.of C2.fi),((c.xs.map V.str).length:Int),rfl,Zz,Zz,?_⟩;refine fo (fun i σ H'=>(∃u1 u2 u3,σ=[some (.ref a),some (.ref s0),some (.ref b),u1,u2,u3])∧ax H H'∧∃xs,H' b=some (.lst xs)∧Dn H' xs (j_ c sh i)) ⟨⟨_,_,_,rfl⟩,ax.upd hb,[],ae, .nil⟩ ?_ ?_
  ·rintro i σ H' hi ⟨⟨u1,u2,u3,rfl⟩,s1,xs,jh,S1⟩;have hi:i<c.xs.length:=by rw[lx]at hi;omega
   have C3:=C1.keep s1;refine⟨_,rfl,a,_,1,_,rfl,rfl, .of C3.ca,ar (j:=1) rfl,x2,_,rfl, .inl (.of C3.se),((c.ys.map V.str).length:Int),rfl,Zz,Zz,?_⟩;refine fo (fun j σ H'=>(∃u2 u3,σ=[some (.ref a),some (.ref s0),some (.ref b),some (.int (0+(i:Int))),u2,u3])∧ax H H'∧∃xs,H' b=some (.lst xs)∧Dn H' xs (j_ c sh i++lJ c sh i j)) ⟨⟨_,_,rfl⟩,s1,xs,jh,by rw[lJ,List.append_nil];exact S1⟩ ?_ ?_
   ·clear s1 jh S1 xs u1 u2 u3 C3 H';rintro j σ H' hj ⟨⟨u2,u3,rfl⟩,s1,xs,jh,S1⟩;have hj:j<c.ys.length:=by rw[ly]at hj;omega
    have C3:=C1.keep s1;obtain⟨x,lg,xW⟩:=vy (xs:=c.xs) (i:=0+(i:Int)) (Zz) (Zz);obtain⟨y,FT,Dp⟩:=vy (xs:=c.ys) (i:=0+(j:Int)) (Zz) (Zz);have ez:(0+(i:Int),0+(j:Int))=aR (i,j):=Prod.ext (by simp[aR]) (by simp[aR]);have ep:c.pw (aR (i,j))=dB c.same c.fs x y:=by rw[←ez];exact Case.pw_of lg FT
    have sl:=S1.1;have l1:=vH c sh i;have l2:=qC c sh i j;have l3:i*c.ys.length≤50*50:=Nat.mul_le_mul Zw hy;rw[List.length_append]at sl;refine⟨_,rfl,a,_,0,_,rfl,rfl, .of C3.ca,ar (j:=0) rfl,_,rfl,x1,_,_,_,rfl,rfl, .of C3.fi,xW,_,rfl,a,_,1,_,rfl,rfl, .of C3.ca,ar (j:=1) rfl,_,rfl,x2,_,_,_,rfl,rfl, .of C3.se,Dp,_,rfl,a,_,2,_,rfl,rfl, .of C3.ca,ar (j:=2) rfl,m,_,0,_,rfl,rfl, .of C3.nu,ar (j:=0) rfl,_,rfl,a,_,3,_,rfl,rfl, .of C3.ca,ar (j:=3) rfl,x,y,c.same,l,us,c.fs,rfl,C3.ne,C3.tr,?_⟩;rw[←ep];refine⟨_,rfl,_,rfl,?_⟩;cases e:c.pw (aR (i,j))with
    |none=>
     refine a9 (fun hh=>absurd hh (by simp[bA])) (fun _=>?_);refine fN ?_;refine⟨⟨_,_,rfl⟩,s1,xs,jh,?_⟩;have:n8 c sh (aR (i,j))=none:=by unfold n8;split;rfl;exact e
     rw[lJ,this,List.append_nil];exact S1
    |some w=>
     refine a9 (fun _=>?_) (fun hh=>absurd (by simp[bA]) hh);refine⟨_,rfl,_,rfl,aE Zu,fun p hp=>?_⟩;have s2:=s1.trans (ax.upd (o:= .tup [.int (0+(i:Int)), .int (0+(j:Int))]) hp);have w8:=ax.upd (o:= .tup [.int (0+(i:Int)), .int (0+(j:Int))]) hp _ _ jh;have S2:=S1.cD (dG.same (ax.upd (o:= .tup [.int (0+(i:Int)), .int (0+(j:Int))]) hp));refine⟨_,rfl,p,s0,(0+(i:Int),0+(j:Int)),ws,sh,rfl,rfl,ae, .of (s2 _ _ hs),P1.same s2,_,rfl,?_⟩;generalize upd H' p (.tup [.int (0+(i:Int)), .int (0+(j:Int))])=H2 at s2 w8 S2;rw[ez];refine a9 (fun h1=>?_) (fun h1=>?_)
     ·have h1:aR (i,j)∉sh:=by simpa using h1
      refine⟨_,rfl, .inl ⟨rfl,_, .of w8⟩,_,rfl,_,rfl,_,rfl,aE Zu,fun t ht=>⟨b,xs,_,rfl,rfl,ax.upd ht _ _ w8,bf Zw,⟨_,_,rfl⟩,(s2.trans (ax.upd ht)).ft hb,_,ae,?_⟩⟩;have e2:n8 c sh (aR (i,j))=some w:=by unfold n8;rw[Zm h1];exact e
      rw[lJ,e2,←List.append_assoc];have S3:Dn (upd H2 t (.tup [.int (0+(i:Int)), .int (0+(j:Int)), .int w])) (xs++[.ref t]) ((j_ c sh i++lJ c sh i j)++[(aR (i,j),w)]):=(S2.cD (dG.same (ax.upd ht))).snoc (by rw[←ez];exact ae);exact S3.cD (dG.lst (ax.upd ht _ _ w8))
     ·have h1:aR (i,j)∈sh:=by simpa using h1
      refine⟨⟨_,_,rfl⟩,s2,xs,w8,?_⟩;have:n8 c sh (aR (i,j))=none:=by unfold n8;rw[Zp h1]
      rw[lJ,this,List.append_nil];exact S2
   ·rintro σ H2 ⟨⟨u2,u3,rfl⟩,s2,FA,w8,S2⟩;rw[ly,Int.toNat_natCast]at S2;exact⟨⟨_,_,_,rfl⟩,s2,FA,w8,S2⟩
  ·rintro σ H2 ⟨⟨u1,u2,u3,rfl⟩,s2,FA,w8,S2⟩;rw[lx,Int.toNat_natCast]at S2;exact⟨_,rfl,q _ b _ s2 hb w8 S2⟩
variable(gB:bK P w K mg base true 3 "_law_finding" ["_law_found"] (tM ay))
variable(hV:bK P w K mg base true 2 "_law_is_way" ["_law_case_here","_law_way"] sV)
variable(iR:bK P w K mg base true 2 "_law_worth" ["_law_case_here","_law_way"] ql)
variable(iS:bK P w K mg base true 2 "_law_spots" ["_law_case_here","_law_shut"] tL)
theorem cB:aK ["_law_case_here","_law_told","_law_held","_law_one","_law_pair_here","_law_i","_law_j","_law_gain"] ["_law_case_here","_law_told"] (au g8):=⟨rfl,rfl,rfl,by decide+kernel,rfl,by decide+kernel,by decide+kernel⟩
include T Fc gB hV iR iS in
theorem tV{f:Addr}{fd:FuncData}(F:jn K "_law_anchor" "_law_anchor" g8 f fd):aZ P w K mg base (cV P w) true 4 f fd ["_law_case_here","_law_told"] (qD ay):=by
 refine F.gK cB Zv (fun bR A outer s H vs Q E hr h hX=>?_)
 ·obtain⟨a,t,c,f,g,m,l,us,ws,es,rfl,_⟩:=h;rfl
 ·obtain⟨b,t,c,x1,x2,m,l,us,vs,es,rfl,C3,ok,ht,FL,TD,q⟩:=h;have hu:=hr.units;have hu:(A.deeper (PyProof.Rows.envOfC "_law_anchor" (au g8) s.heap.objs.size f bR)).units+1<cLine:=Zz;have X_:=ok.x;have X':=ok.y;have OL:=FL.1;refine⟨_,(Zl (Y3 (2) cB.nd j5) (Zl (@bG _ _ _ _ _ _ _ _ hX.own Zy (@bg _ K _ _ _ (pv 1) (ZC)) (Y6 (3) cB.nd) (Zl (Zj (@PW.pt _ _ _ (@pw_or _ _ _ _ _ _ _ (@cJ _ _ _ _ (@bY _ _ _ (Y5 gB aQ (Y4 (pv 3))) (by intro _;rfl))) (@pw_or _ _ _ _ _ _ _ (@cJ _ _ _ _ (@bY _ _ _ (Y5 hV aQ (Y8 (pv 0) (Y4 (Y_ K (pv 3))))) (by intro _;rfl))) (@pw_or1 _ _ _ _ (Zo mP (Y_ K (pv 3)) (Zc af) (aV _)))))) (Zh (Zs dO)) aP) (Zl (Zj (Zo u_ (Y5 iR aQ (Y8 (pv 0) (Y4 (Y_ K (pv 3))))) (Y_ K (pv 3)) (aV _)) (Zh (Zs dO)) aP) (Zl (@bG _ _ _ _ _ _ _ _ hX.own Zy (@bg _ K _ _ _ (Y_ K (pv 3)) (ZC)) (Y6 (4) cB.nd) (Zl (Zj (Zf (@qf _ _ _ _ _ hu (pv 4) (pv 2))) (Zh (Zs dO)) aP) (Zh (@kr _ _ _ _ _ _ _ _ _ hu (pv 2) (pv 4) dO Zy))) (by intro _;rfl)) (Zh (@bG _ _ _ _ _ _ _ _ hX.own Zy (@bg _ K _ _ _ (Y_ K (pv 3)) (ZC)) (Y6 (4) cB.nd) (Zh (Zj (Zo (mV K hu) (pv 4) (Y_ K (pv 3)) (by with_unfolding_all rfl)) (Zh (Zs dO)) aP)) (by intro _;rfl)))))) (by intro _;rfl)) (Zl (@bG _ _ _ _ _ _ _ _ hX.own Zy (@bg _ K _ _ _ (Y5 iS aQ (Y8 (pv 0) (Y4 (@bI _ _ _ _ ai)))) (ZC)) (@f_ _ K _ _ _ (3) _ (by exact rfl) (@bb _ _ _ _ _ (Y6 (5) cB.nd) (@bb _ _ _ _ _ (Y6 (6) cB.nd) (@bb _ _ _ _ _ (Y6 (7) cB.nd) f7 (ZC)) (ZC)) (ZC)) (ZC) (ZC) (ZC)) (Zh (Zj (@PW.pt _ _ _ (@pw_and _ _ _ _ _ _ _ (Zo ye (pv 7) (Zc af) (aV _)) (@pw_and1 _ _ _ _ (Zf (@vk _ _ _ _ _ hu (@eV _ _ _ _ _ (Y8 (pv 5) (Y4 (pv 6)))) (pv 2)))))) (Zh (Zs dO)) aP)) (by intro _;rfl)) (Zh (Zs dO))))),?_⟩;refine⟨fun σ H4=>∃d,σ=[some (.ref b),some (.ref t),some (.ref d),none,none,none,none,none]∧ax H H4∧H d=none∧H4 d=some (.dT []),fun d hd=>⟨d,rfl,ax.upd hd,hd,ae⟩,?_⟩;rintro σ H4 ⟨D,rfl,s4,L5,hD⟩;refine⟨fun σ H5=>(∃u1 u2,σ=[some (.ref b),some (.ref t),some (.ref D),u1,u2,none,none,none])∧ax H H5∧∃kvs,H5 D=some (.dT kvs)∧mT kvs (lK es es.length),?_,?_⟩
  ·refine⟨_,rfl,t,rfl,⟨_, .of (s4 _ _ ht)⟩,?_⟩;refine bU (xs:=vs) (fun k σ H5=>(∃u1 u2,σ=[some (.ref b),some (.ref t),some (.ref D),u1,u2,none,none,none])∧ax H H5∧∃kvs,H5 D=some (.dT kvs)∧kvs.length≤(lK es k).length∧mT kvs (lK es k)) ⟨⟨_,_,rfl⟩,s4,[],hD,Nat.zero_le _,fun p=>by simp[sD,lK]⟩ ?_ ?_ ?_
   ·rintro k σ H5 _ ⟨_,s5,_⟩;exact .of (s5 _ _ ht)
   ·rintro k v σ H5 hv ⟨⟨u1,u2,rfl⟩,s5,kvs,FX,RW,Mf⟩;have hk:k<es.length:=by rw[←OL];exact(Y' hv).1
    have ek:es[k]?=some es[k]:=by simp[hk]
    generalize es[k]=d at ek;obtain⟨y,dy,wy,ic,pr,kZ,ik,e1,F3⟩:=FL.2 k d ek;rw[hv]at e1;cases e1;have kF:=TD.kF d (Zk ek);have FF:∀{H'},ax H H'→vG (fun _=>True) H' ay y d dy wy ic pr kZ ik:=fun{H'} s'=>F3.keep (fun b o _ e=>s' b o e) (dG.same s') fun _ h=>h
    have iw:=Ft kF.way;have nd:=qB kF.qu;have pl:=TD.Lk ok (k+1);rw[yQ ek,List.length_append]at pl;have wl:d.way.length≤2500:=by
     have h6:=len_sub d.way d.pairs (kF.way.up.imp fun{a b} h e=>by
      rw[e]at h;have:=h.1;omega) kF.sub
     omega
    refine⟨fun σ H6=>σ=[some (.ref b),some (.ref t),some (.ref D),some (.ref y),u2,none,none,none]∧ax H5 H6,?_,?_⟩
    ·have F:=FF s5;refine⟨_,rfl,y,_,d,dy,wy,ic,pr,kZ,ik,rfl,F,by rw[kF.row,Hk],kF.way.ne,fun H6 s6=>⟨_,rfl,?_⟩⟩;refine fN ?_;have F:=FF (s5.trans s6);refine⟨_,rfl,_,rfl,y,ay,dy,_,_,rfl,F.ob,Fc.cl,Fc.way,qx d.worth wy ic pr,b,wy,c,x1,x2,m,l,us,kZ,d.way,rfl,C3.keep (s5.trans s6),F.hw,F.pw,Zz,fun H7 s7=>⟨_,rfl,?_⟩⟩;rw[iw];refine fN ?_;have SV:=s6.trans s7;have F:=FF (s5.trans SV);have C7:=C3.keep (s5.trans SV);have kh:=C7.ca;refine⟨_,rfl,y,ay,dy,_,_,rfl,F.ob,Fc.cl,Fc.worth,gc d.worth wy ic pr,_,rfl,b,_,2,_,rfl,rfl, .of kh,ar (j:=2) rfl,m,_,3,_,rfl,rfl, .of C7.nu,ar (j:=3) rfl,_,_,rfl,rfl,_,rfl,?_⟩;have:=kF.least;exact a9 (fun hh=>absurd hh (by simp;omega)) (fun _=>⟨rfl,SV⟩)
    rintro σ H6 ⟨rfl,s6⟩;have s7:=s5.trans s6;have Md:=s6 _ _ FX;have F:=FF s7;refine⟨fun σ H7=>σ=[some (.ref b),some (.ref t),some (.ref D),some (.ref y),u2,none,none,none]∧H7=H6,?_,?_⟩
    ·refine⟨_,rfl,_,rfl,y,ay,dy,_,_,rfl,F.ob,Fc.cl,Fc.way,qx d.worth wy ic pr,b,wy,c,x1,x2,m,l,us,kZ,d.way,rfl,C3.keep s7,ok.num,F.hw,F.pw,Zz,iw,_,rfl,y,ay,dy,_,_,rfl,F.ob,Fc.cl,Fc.worth,gc d.worth wy ic pr,rfl,_,rfl,?_⟩;rw[(Hj iw).2,kF.worth];exact a9 (fun hh=>absurd hh Zu) (fun _=>⟨rfl,rfl⟩)
    rintro σ H7 ⟨rfl,rfl⟩;refine⟨fun σ H8=>(∃u3,σ=[some (.ref b),some (.ref t),some (.ref D),some (.ref y),u3,none,none,none])∧ax H H8∧∃kvs,H8 D=some (.dT kvs)∧kvs.length≤(lK es (k+1)).length∧mT kvs (lK es (k+1)),?_,?_⟩
    ·refine⟨_,rfl,y,ay,dy,_,_,rfl,F.ob,Fc.cl,Fc.pairs,ij d.worth wy ic pr,pr,rfl,⟨_, .of F.hp⟩,?_⟩;refine bU (xs:=ik) (fun i σ H8=>(∃u3,σ=[some (.ref b),some (.ref t),some (.ref D),some (.ref y),u3,none,none,none])∧ax H H8∧∃kvs,H8 D=some (.dT kvs)∧kvs.length≤(lK es k).length+i∧mT kvs (lK es k++d.pairs.take i)) ⟨⟨_,rfl⟩,s7,kvs,Md,Zz,by simpa using Mf⟩ ?_ ?_ ?_
     ·rintro i σ H8 _ ⟨_,s8,_⟩;exact .of (FF s8).hp
     ·rintro i v σ H8 hv ⟨⟨u,rfl⟩,s8,HL,AG,OM,LB⟩;have hi:i<d.pairs.length:=by rw[←F3.pp.1];exact(Y' hv).1
      have ei:d.pairs[i]?=some d.pairs[i]:=by simp[hi]
      generalize d.pairs[i]=g at ei;obtain⟨tt,g1,g2⟩:=F3.pp.2 i g ei;rw[hv]at g1;cases g1;have hn:g∉lK es k++d.pairs.take i:=fun z=>(List.mem_append.mp z).elim (TD.Hm ek (Zk ei)) (Hn nd ei)
      refine⟨fun σ H9=>σ=[some (.ref b),some (.ref t),some (.ref D),some (.ref y),some (.ref tt),none,none,none]∧H9=H8,?_,?_⟩
      ·refine⟨_,rfl,_,rfl,D,_,rfl, .t (k:=a_ g) AG (s8 _ _ g2),_,rfl,?_⟩;rw[LB];exact a9 (fun hh=>absurd (by simpa using hh) hn) (fun _=>⟨rfl,rfl⟩)
      rintro σ H9 ⟨rfl,rfl⟩;refine⟨_,rfl,_,rfl,D,_,rfl, .t (k:=a_ g) AG (s8 _ _ g2) (bf Zw),⟨_,rfl⟩,s8.ft L5,_,ae,Nat.le_trans (eX _ _ _) (Zz),?_⟩;have:=Fv LB g (.bl true);rw[List.append_assoc]at this;rw[List.take_succ,ei];exact this
     ·rintro σ H8 ⟨SW,s8,HL,AG,OM,LB⟩;rw[F3.pp.1]at OM;rw[F3.pp.1,List.take_length]at LB;rw[yQ ek];exact⟨SW,s8,HL,AG,by rw[List.length_append];exact OM,LB⟩
    rintro σ H8 ⟨⟨u4,rfl⟩,s8,HL,AG,OM,LB⟩;have F:=FF s8;refine⟨_,rfl,y,ay,dy,_,_,rfl,F.ob,Fc.cl,Fc.way,qx d.worth wy ic pr,wy,rfl,⟨_, .of F.hw⟩,?_⟩;refine bU (xs:=kZ) (fun i σ H9=>(∃u3,σ=[some (.ref b),some (.ref t),some (.ref D),some (.ref y),u3,none,none,none])∧H9=H8) ⟨⟨_,rfl⟩,rfl⟩ ?_ ?_ ?_
    ·rintro i σ H9 _ ⟨_,rfl⟩;exact .of F.hw
    ·rintro i v σ H9 hv ⟨⟨u,rfl⟩,rfl⟩;have hi:i<d.way.length:=by rw[←F.pw.1];exact(Y' hv).1
     have ei:d.way[i]?=some d.way[i]:=by simp[hi]
     generalize d.way[i]=g at ei;obtain⟨tt,g1,g2⟩:=F.pw.2 i g ei;rw[hv]at g1;cases g1;refine⟨_,rfl,_,rfl,y,ay,dy,_,_,rfl,F.ob,Fc.cl,Fc.pairs,ij d.worth wy ic pr,tt,pr,g,ik,d.pairs,rfl,rfl,g2, .of F.hp,F.pp,_,rfl,?_⟩;have:=kF.sub g (Zk ei);exact a9 (fun hh=>absurd hh (by simp[this])) (fun _=>⟨⟨_,rfl⟩,rfl⟩)
    ·rintro σ H9 ⟨⟨u,rfl⟩,rfl⟩;exact⟨⟨_,_,rfl⟩,s8,HL,AG,OM,LB⟩
   ·rintro σ H5 ⟨SW,s5,kvs,FX,_,Mf⟩;rw[OL]at Mf;exact⟨SW,s5,kvs,FX,Mf⟩
  rintro σ H5 ⟨⟨u1,u2,rfl⟩,s5,kvs,FX,Mf⟩;refine⟨fun σ H4=>ax H H4,?_,fun σ H4 s4=>q _ s4⟩;refine⟨_,rfl,aE Zu,fun e he=>?_⟩;have s6:=s5.trans (ax.upd (o:= .lst []) he);refine⟨b,e,c,x1,x2,m,l,us,[],[],rfl,C3.keep s6,ae, .nil,Zz,Zz,fun H7 r ws s7 rz h7 S7=>⟨r,rfl,⟨_, .of h7⟩,?_⟩⟩;have Vo:=s6.trans s7;have Md:=s7 _ _ (ax.upd (o:= .lst []) he _ _ FX);refine bU (xs:=ws) (fun k σ H8=>(∃v1 v2 v3,σ=[some (.ref b),some (.ref t),some (.ref D),u1,u2,v1,v2,v3])∧ax H7 H8) ⟨⟨_,_,_,rfl⟩, .refl _⟩ ?_ ?_ (fun _ _ ⟨_,s8⟩=>Vo.trans s8)
  ·rintro k σ H8 _ ⟨_,s8⟩;exact .of (s8 _ _ h7)
  ·rintro k v σ H8 hv ⟨⟨v1,v2,v3,rfl⟩,s8⟩;have hk:k<(j_ c [] c.xs.length).length:=by rw[←S7.1];exact(Y' hv).1
   have ek:(j_ c [] c.xs.length)[k]?=some (j_ c [] c.xs.length)[k]:=by simp[hk]
   generalize (j_ c [] c.xs.length)[k]=x at ek;obtain⟨tt,k1,k2⟩:=S7.2 k x ek;rw[hv]at k1;cases k1;have Yb:=vJ (Zk ek);have C8:=C3.keep (Vo.trans s8);have kh:=C8.ca;refine⟨tt,_,rfl, .of (s8 _ _ k2),rfl,_,_,rfl,_,_,rfl,_,_,rfl,rfl,?_⟩;refine⟨_,rfl,_,rfl,b,_,2,_,rfl,rfl, .of kh,ar (j:=2) rfl,m,_,3,_,rfl,rfl, .of C8.nu,ar (j:=3) rfl,_,_,rfl,rfl,_,rfl,?_⟩;refine a9 (fun h1=>?_) (fun _=>?_)
   ·have h1:c.least≤x.2:=by simpa using h1
    refine⟨_,rfl,_,rfl,aE Zu,fun p hp=>⟨_,rfl,D,_,rfl, .t (k:=a_ x.1) (ax.upd hp _ _ (s8 _ _ Md)) ae,_,rfl,?_⟩⟩;rw[Mf];obtain⟨d,hd,hq⟩:=TD.pair Yb h1;refine a9 (fun hh=>absurd hh (by simp;exact Lj hd hq)) (fun _=>?_);exact⟨⟨_,_,_,rfl⟩,s8.trans (ax.upd hp)⟩
   ·refine fN ?_;exact⟨⟨_,_,_,rfl⟩,s8⟩
variable(mE:bK P w K mg base true 8 "compare" ["first","second","terms"] (w9 aU ay ka))
variable(iT:bK P w K mg base true 7 "_law_terms" ["_law_case_here"] (qj aU))
theorem uL:aK ["_law_case_here"] ["_law_case_here"] (au kN):=⟨rfl,rfl,rfl,by decide+kernel,rfl,by decide+kernel,by decide+kernel⟩
include T mE iT in
theorem uM{f:Addr}{fd:FuncData}(F:jn K "_law_asked" "_law_asked" kN f fd):aZ P w K mg base (cV P w) true 9 f fd ["_law_case_here"] (xc ay):=by
 refine F.gK uL Zv (fun bR A outer s H vs Q E hr h hX=>?_)
 ·obtain⟨a,c,f,g,m,l,us,most,rfl,_⟩:=h;rfl
 ·obtain⟨a,c,x1,x2,m,l,us,most,rfl,C1,ok,hm,sI,q⟩:=h;refine⟨_,(Zh (Zs (Y5 mE aQ (Y8 (@fV _ _ _ _ _ _ _ _ _ (fD K) (by exact rfl) T.jQ PyProof.Rows.Boot.«list» (Y4 (Y7 (pv 0) af)) (ZA) (ZA) (ZC) (ZC)) (Y8 (@fV _ _ _ _ _ _ _ _ _ (fD K) (by exact rfl) T.jQ PyProof.Rows.Boot.«list» (Y4 (Y7 (pv 0) af)) (ZA) (ZA) (ZC) (ZC)) (Y4 (Y5 iT aQ (Y4 (pv 0))))))))),?_⟩;have kh:=C1.ca;refine⟨_,rfl,a,_,0,_,rfl,rfl, .of kh,ar (j:=0) rfl,x1,_,rfl, .inl (.of C1.fi),fun y1 FT=>?_⟩;have s1:=ax.upd (o:= .lst (c.xs.map V.str)) FT;have SX:=s1 _ _ kh;refine⟨_,rfl,a,_,1,_,rfl,rfl, .of SX,ar (j:=1) rfl,x2,_,rfl, .inl (.of (s1 _ _ C1.se)),fun y2 Dp=>?_⟩;have s2:=s1.trans (ax.upd (o:= .lst (c.ys.map V.str)) Dp);refine⟨_,rfl,a,c,x1,x2,m,l,us,most,rfl,C1.keep s2,ok,fun H3 t s3 TF=>?_⟩;have Mc:=s2.trans s3;have X_:=ok.x;have X':=ok.y;refine⟨y1,y2,t,c,rfl,s3 _ _ (ax.upd Dp _ _ ae),s3 _ _ ae,TF,Zz,Zz,fun es TD H4 r vs s4 hr h4 FL=>?_,fun ds f2 RC hl H4 s4=>?_⟩
  ·exact q es TD H4 r vs (Mc.trans s4) (Mc.free hr) h4 (FL.keep (fun _ _ _ h=>h) (fun _ _ h=>h) fun b hb=>trivial)
  ·have:=sI _ _ RC;omega
theorem jE:aK ["_law_told","_law_due","_law_k"] ["_law_told","_law_due"] (au fz):=⟨rfl,rfl,rfl,by decide+kernel,rfl,by decide+kernel,by decide+kernel⟩
include T Fc bF dw in
theorem ph{f:Addr}{fd:FuncData}(F:jn K "_law_same_list" "_law_same_list" fz f fd):aZ P w K mg base (cV P w) true 3 f fd ["_law_told","_law_due"] (tN ay):=by
 refine F.gK jE Zv (fun bR A outer s H vs Q E hr h hX=>?_)
 ·obtain⟨t,d,us,ws,es,P,rfl,_⟩:=h;rfl
 ·obtain⟨t,d0,us,ws,es,P,rfl,ht,FL,hd,D,hl,q⟩:=h;have hu:=hr.units;have hu:(A.deeper (PyProof.Rows.envOfC "_law_same_list" (au fz) s.heap.objs.size f bR)).units+1<cLine:=Zz;have e1:=FL.1;have e2:=D.1;rw[List.length_map]at e2;refine⟨_,(Ze (Zj (@PW.pt _ _ _ (@pw_or _ _ _ _ _ _ _ (@cJ _ _ _ _ (@bY _ _ _ (Zi (fW K) T.cW PyProof.Rows.Boot.«isinstance» (Y8 (pv 0) (Y4 (@jl _ _ (.ty "list") _ _ (by exact rfl) T.jQ PyProof.Rows.Boot.«list» Zy (ZA) (ZA))))) (by intro _;rfl))) (@pw_or1 _ _ _ _ (Zo u_ (Y9 (aJ K) T.cP (Y4 (pv 0))) (Y9 (aJ K) T.cP (Y4 (pv 1))) (aV _))))) (Zh (Zs dO)) aP) (Ze (@bG _ _ _ _ _ _ _ _ hX.own Zy (@eA _ _ _ _ _ _ (by exact rfl) T.fJ (Y4 (Y9 (aJ K) T.cP (Y4 (pv 1)))) (ZC)) (Y6 (2) jE.nd) (Ze (Zj (@PW.pt _ _ _ (@pw_or _ _ _ _ _ _ _ (@cJ _ _ _ _ (@bY _ _ _ (Y5 bF aQ (Y4 (Y_ K (Y7 (pv 0) (pv 2))))) (by intro _;rfl))) (@pw_or1 _ _ _ _ (Zo u_ (Y_ K (Y7 (pv 0) (pv 2))) (Zr (bT K) (Y7 (pv 1) (pv 2)) af) (aV _))))) (Zh (Zs dO)) aP) (Zh (Zj (@PW.pt _ _ _ (@pw_or _ _ _ _ _ _ _ (@cJ _ _ _ _ (@bY _ _ _ (Y5 dw aQ (Y4 (Y_ K (Y7 (pv 0) (pv 2))))) (by intro _;rfl))) (@pw_or1 _ _ _ _ (Zo (Av K hu) (Y_ K (Y7 (pv 0) (pv 2))) (Zr (bT K) (Y7 (pv 1) (pv 2)) af) (aV _))))) (Zh (Zs dO)) aP))) (by intro _;rfl)) (Zh (Zs dO)))),?_⟩;refine⟨_,rfl,_,_,_,true,_,rfl,rfl, .lst ht,rfl,_,rfl,?_⟩;refine fN ?_;refine⟨_,rfl,t,_,rfl, .inl (.of ht),_,rfl,d0,_,rfl, .inl (.of hd),rfl,_,rfl,?_⟩;refine a9 (fun hh=>absurd hh (by simp;omega)) (fun _=>?_);refine⟨_,rfl,d0,_,rfl, .inl (.of hd),_,rfl,Zz,Zz,?_⟩;refine fo (fun i σ H'=>(∃u,σ=[some (.ref t),some (.ref d0),u])∧H'=H) ⟨⟨_,rfl⟩,rfl⟩ ?_ ?_
  ·rintro i σ H' hi ⟨⟨u,rfl⟩,rfl⟩;have hi:i<es.length:=by have:i<((ws.length:Nat):Int).toNat:=hi;omega
   have ei:es[i]?=some es[i]:=by simp[hi]
   generalize es[i]=d at ei;obtain⟨y,dy,wy,ic,pr,kZ,ik,k1,F⟩:=FL.2 i d ei;obtain⟨tt,ll,Yc,k2,k3,k4,P4⟩:=D.2 i (i9 d) (by rw[List.getElem?_map,ei];rfl);have uk:∀{vs:List V}{v},vs[i]?=some v→rj vs (0+(i:Int))=some v:=fun{vs v} h=>by rw[Int.zero_add];exact ar h
   refine⟨_,rfl,_,rfl,t,_,_,_,rfl,rfl, .of ht,uk k1,y,ay,dy,_,_,rfl,F.ob,Fc.cl,Fc.worth,gc d.worth wy ic pr,_,rfl,_,rfl,?_⟩;refine fN ?_;refine⟨_,rfl,_,rfl,t,_,_,_,rfl,rfl, .of ht,uk k1,y,ay,dy,_,_,rfl,F.ob,Fc.cl,Fc.worth,gc d.worth wy ic pr,_,rfl,_,rfl,d0,_,_,_,rfl,rfl, .of hd,uk k2,tt,_,0,_,rfl,rfl, .of k3,ar (j:=0) rfl,rfl,_,rfl,?_⟩;refine a9 (fun hh=>absurd hh (by simp[i9])) (fun _=>?_);refine⟨_,rfl,_,rfl,t,_,_,_,rfl,rfl, .of ht,uk k1,y,ay,dy,_,_,rfl,F.ob,Fc.cl,Fc.pairs,ij d.worth wy ic pr,pr,ik,d.pairs,rfl,F.hp,F.pp,_,rfl,?_⟩;refine fN ?_;refine⟨_,rfl,_,rfl,t,_,_,_,rfl,rfl, .of ht,uk k1,y,ay,dy,_,_,rfl,F.ob,Fc.cl,Fc.pairs,ij d.worth wy ic pr,_,rfl,_,rfl,d0,_,_,_,rfl,rfl, .of hd,uk k2,tt,_,1,_,rfl,rfl, .of k3,ar (j:=1) rfl,pr,ll,ik,Yc,d.pairs,rfl,rfl, .of F.hp, .of k4,F.pp,P4,_,rfl,?_⟩;refine fN ?_;exact⟨⟨_,rfl⟩,rfl⟩
  ·rintro σ H' ⟨⟨u,rfl⟩,rfl⟩;exact q
variable(jF:bK P w K mg base true 3 "_law_case" ["_law_script","_law_most"] (wF K))
variable(jG:bK P w K mg base true 2 "_law_calm" ["_law_case_here"] w_)
variable(gC:bK P w K mg base true 9 "_law_asked" ["_law_case_here"] (xc ay))
variable(fH:bK P w K mg base true 4 "_law_anchor" ["_law_case_here","_law_told"] (qD ay))
variable(fA:bK P w K mg base true 3 "_law_same_list" ["_law_told","_law_due"] (tN ay))
theorem jX:aK ["_law_script","_law_case_here","_law_told","_law_n","_law_least","_law_greater","_law_found","_law_due"] ["_law_script"] (au oX):=⟨rfl,rfl,rfl,by decide+kernel,rfl,by decide+kernel,by decide+kernel⟩
include T Fc aX jF jG gC fH fA in
theorem LC{f:Addr}{fd:FuncData}(F:jn K "law" "law" oX f fd):aZ P w K mg base (cV P w) true 10 f fd ["_law_script"] (Bc K):=by
 refine F.gK jX Zv (fun bR A outer s H vs Q E hr h hX=>?_)
 ·obtain⟨a,ns,rfl,_⟩:=h;rfl
 ·obtain⟨a,ns,rfl,hS,hlen,q⟩:=h;have hu:=hr.units;have hu:(A.deeper (PyProof.Rows.envOfC "law" (au oX) s.heap.objs.size f bR)).units+1<cLine:=Zz;have HA:=Nat.lt_of_succ_lt hu;refine⟨_,(Zl (Y3 (1) jX.nd (Y5 jG aQ (Y4 (Y5 jF aQ (Y8 (pv 0) (Y4 (Y7 (@bI _ _ _ _ (Y8 af (Y8 af (Y8 af (Y8 af (Y4 af)))))) (Za bC (Zb aX aQ) af)))))))) (Zl (Y3 (2) jX.nd (Y5 gC aQ (Y4 (pv 1)))) (Zl (Zj (@PW.pt _ _ _ (@pw_or _ _ _ _ _ _ _ (@cJ _ _ _ _ (@bY _ _ _ (Zi (fW K) T.cW PyProof.Rows.Boot.«isinstance» (Y8 (pv 2) (Y4 (@jl _ _ (.ty "list") _ _ (by exact rfl) T.jQ PyProof.Rows.Boot.«list» Zy (ZA) (ZA))))) (by intro _;rfl))) (@pw_or1 _ _ _ _ (@cJ _ _ _ _ (@bY _ _ _ (Y5 fH aQ (Y8 (pv 1) (Y4 (pv 2)))) (by intro _;rfl)))))) (Zh (Zs dO)) aP) (Zl (Y3 (3) jX.nd (Y7 (pv 1) af)) (Zl (@aG _ _ (4) _ _ _ _ jX.nd Zy (Or.inr rfl) (Za bp (Y7 (pv 3) af) (Za bC (Zb aX aQ) af)) (ZC) (by exact .inl rfl)) (Zl (Zj (@PW.pt _ _ _ (@pw_and _ _ _ _ _ _ _ (Zo (ni K HA) (pv 2) (@bI _ _ _ _ ai) (aV _)) (@pw_and1 _ _ _ _ (Zo oh (Za bC (Zb aX aQ) af) af (aV _))))) (Zh (@aG _ _ (4) _ _ _ _ jX.nd Zy (Or.inr rfl) (Za bZ (Za bp (Y_ K (Y7 (pv 2) (Za bC (Zb aX aQ) (Y9 (aJ K) T.cP (Y4 (pv 2)))))) (Za bC (Zb aX aQ) af)) af) (ZC) (by exact .inl rfl))) aP) (Zl (@aG _ _ (4) _ _ _ _ jX.nd Zy (Or.inr rfl) (Zi (l_ rfl) T.Bb PyProof.Rows.Boot.«min» (Y8 af (Y4 (pv 4)))) (ZC) (by exact .inl rfl)) (Zl (Y3 (5) jX.nd (@bI _ _ _ _ (Y8 (Y7 (pv 1) af) (Y8 (Y7 (pv 1) af) (Y8 (@bI _ _ _ _ (Y8 (Y7 (pv 3) af) (Y8 (Y7 (pv 3) af) (Y8 (Y7 (pv 3) af) (Y4 (pv 4)))))) (Y4 (Y7 (pv 1) af))))))) (Zl (Y3 (6) jX.nd (Y5 gC aQ (Y4 (pv 5)))) (Zl (Zj (@PW.pt _ _ _ (@pw_or _ _ _ _ _ _ _ (@cJ _ _ _ _ (@bY _ _ _ (Zi (fW K) T.cW PyProof.Rows.Boot.«isinstance» (Y8 (pv 6) (Y4 (@jl _ _ (.ty "list") _ _ (by exact rfl) T.jQ PyProof.Rows.Boot.«list» Zy (ZA) (ZA))))) (by intro _;rfl))) (@pw_or1 _ _ _ _ (@cJ _ _ _ _ (@bY _ _ _ (Y5 fH aQ (Y8 (pv 5) (Y4 (pv 6)))) (by intro _;rfl)))))) (Zh (Zs dO)) aP) (Zl (@me _ _ _ _ _ _ _ _ _ _ _ _ _ _ _ (7) _ _ (by exact rfl) jX.nd Zy (by exact rfl) (show bB ["_law_script","_law_case_here","_law_told","_law_n","_law_least","_law_greater","_law_found","_law_due"] (au oX) _ ["_law_one"] [4] ["_law_least"]from⟨rfl,by decide+kernel,by decide+kernel,by decide+kernel,rfl,rfl,by decide+kernel,by decide+kernel,by decide+kernel⟩) (@bg _ K _ _ _ (pv 2) (ZC)) (fun _ _ _ _ _=>(Y6 (0) (show(["_law_one","_law_least"]:List Str).Nodup by decide+kernel))) (fun _ _ _ _ _=>(@we _ _ _ (Zo ye (Y_ K (pv 0)) (pv 1) (aV _)))) (fun _ _ _ _ _=>(@eV _ _ _ _ _ (Y8 (Y_ K (pv 0)) (Y4 (@fV _ _ _ _ _ _ _ _ _ (fD K) (by exact rfl) T.jQ PyProof.Rows.Boot.«list» (Y4 (Y_ K (pv 0))) (ZA) (ZA) (ZC) (ZC)))))) (ZC) (by intro _;rfl)) (Zh (Zs (Y5 fA aQ (Y8 (pv 6) (Y4 (pv 7))))))))))))))))),?_⟩;refine⟨fun σ H1=>∃(b:Addr)(c:Case)(x1 x2 m l:Addr)(us:List V),σ=[some (.ref a),some (.ref b),none,none,none,none,none,none]∧ax H H1∧jt H1 b c x1 x2 m l us∧dW 40 c∧PH c,?_,?_⟩
  ·obtain⟨mo,BK,hm⟩:=int_at [12,40,12,12,12] (i:=cell ns 12%5) (Zz) (show cell ns 12%5<(5:Int) by omega);have FW:mo=12∨mo=40:=by simp at BK;omega
   refine⟨_,rfl,aE Zu,fun p hp=>⟨_,rfl,a,ns,12,rfl,(ax.upd hp).seq hS,ZA,_,_,rfl,rfl,(show(0:Int)<5 by decide),p,_,_,_,rfl,rfl, .of ae,by simpa using hm,a,ns,mo,rfl,(ax.upd hp).seq hS,Zz,Zz,fun H1 b c x1 x2 m l us s1 hb C1 ok=>?_⟩⟩;have hx:=ok.x;have hy:=ok.y;have SY:dW 60 c:=⟨Zz,Zz,ok.good,ok.same,ok.out,ok.into,ok.least⟩
   have S8:dW 40 c:=⟨Zz,Zz,ok.good,ok.same,ok.out,ok.into,ok.least⟩
   have Vp:=BH S8 Zw;exact⟨b,c,x1,x2,m,l,us,rfl,C1,SY,fun H2 b2 m2 s2 w8 sJ C2=>⟨b2,gf c,x1,x2,m2,l,us,rfl,((ax.upd hp).trans s1).trans s2,C2,Vp,Fx Vp⟩⟩
  rintro σ H1 ⟨b,c,x1,x2,m,l,us,rfl,s1,C1,ok,sI⟩;have LD:dW 50 c:=⟨Nat.le_trans ok.x Zw,Nat.le_trans ok.y Zw,ok.good,ok.same,ok.out,ok.into,ok.least⟩
  refine⟨fun σ H3=>∃(t:Addr)(vs:List V)(es:List Fd),σ=[some (.ref a),some (.ref b),some (.ref t),none,none,none,none,none]∧ax H1 H3∧H3 t=some (.lst vs)∧cb (fun _=>True) H3 ay vs es∧bN (ju c []) c.out c.into c.least es,?_,?_⟩
  ·exact⟨_,rfl,b,c,x1,x2,m,l,us,40,rfl,C1,ok,Zz,sI,fun es TD H3 t vs s3 _ h3 FL=>⟨t,vs,es,rfl,s3,h3,FL,TD⟩⟩
  rintro σ H2 ⟨t,vs,es,rfl,s2,ht,FL,TD⟩;have C2:=C1.keep s2;have OL:=FL.1;have YZ:=TD.sI;refine⟨fun σ H3=>σ=[some (.ref a),some (.ref b),some (.ref t),none,none,none,none,none]∧ax H2 H3,?_,?_⟩
  ·refine⟨_,rfl,_,_,_,true,_,rfl,rfl, .lst ht,rfl,_,rfl,?_⟩;refine fN ?_;refine⟨_,rfl,_,rfl,b,t,c,x1,x2,m,l,us,vs,es,rfl,C2,LD,ht,FL,TD,fun H3 s3=>⟨_,rfl,?_⟩⟩;refine fN ?_;exact⟨rfl,s3⟩
  rintro σ H3 ⟨rfl,s3⟩;have sA:=(s1.trans s2).trans s3;have C3:=C2.keep s3;have kh:=C3.ca;refine⟨fun σ H4=>σ=[some (.ref a),some (.ref b),some (.ref t),some (.ref m),none,none,none,none]∧H4=H3,⟨_,rfl,b,_,2,_,rfl,rfl, .of kh,ar (j:=2) rfl,rfl,rfl⟩,?_⟩;rintro σ H3 ⟨rfl,rfl⟩;have Lz:=sA.seq hS;have Lo:=s3 _ _ ht;have Qf:=FL.keep (P':=fun _=>True) (fun b o _ e=>s3 b o e) (dG.same s3) fun _ h=>h
  refine⟨fun σ H4=>∃l1,c.least≤l1∧σ=[some (.ref a),some (.ref b),some (.ref t),some (.ref m),some (.int l1),none,none,none]∧H4=H3,?_,?_⟩
  ·exact⟨_,rfl,m,_,3,_,rfl,rfl, .of C3.nu,ar (j:=3) rfl,_,rfl,a,ns,13,rfl,Lz,ZA,_,_,rfl,rfl,(show(0:Int)<21 by decide),_,_,rfl,rfl,c.least+cell ns 13%21,Zz,rfl,rfl⟩
  rintro σ H3 ⟨l1,jZ,rfl,rfl⟩;refine⟨fun σ H4=>∃l1,c.least≤l1∧σ=[some (.ref a),some (.ref b),some (.ref t),some (.ref m),some (.int l1),none,none,none]∧ax H3 H4,?_,?_⟩
  ·refine⟨_,rfl,aE Zu,fun pn HJ=>⟨t,pn,_,rfl,rfl, .of (ax.upd HJ _ _ Lo), .of ae,_,rfl,?_⟩⟩;have s4:=ax.upd (o:= .lst []) HJ;generalize upd H3 pn (.lst [])=H4 at s4;refine a9 (fun h1=>?_) (fun _=>fN ⟨l1,jZ,rfl,s4⟩);have h1:vs≠[]:=by simpa using h1
   have OI:0<vs.length:=List.length_pos_iff.mpr h1;refine⟨_,rfl,a,ns,14,rfl,s4.seq Lz,ZA,_,_,rfl,rfl,(show(0:Int)<3 by decide),_,_,rfl,rfl,_,rfl,?_⟩;refine a9 (fun h2=>?_) (fun _=>⟨l1,jZ,rfl,s4⟩);have h2:0<cell ns 14%3:=by simpa using h2
   have jh:0≤cell ns 13%(vs.length:Int)∧cell ns 13%(vs.length:Int)<vs.length:=⟨Int.emod_nonneg _ (Zz),Int.emod_lt_of_pos _ (Zz)⟩
   obtain⟨j,hj⟩:=Int.eq_ofNat_of_zero_le jh.1;have Yd:j<es.length:=Zz;have ej:es[j]?=some es[j]:=by simp[Yd]
   generalize es[j]=d at ej;obtain⟨y,dy,wy,ic,pr,kZ,ik,e1,F⟩:=Qf.2 j d ej;have uk:rj vs (cell ns 13%(vs.length:Int))=some (.ref y):=by rw[hj];exact ar e1
   have hle:=(TD.kF d (Zk ej)).least;exact⟨_,rfl,_,rfl,a,ns,13,rfl,s4.seq Lz,ZA,_,rfl,t,_,rfl, .inl (.of (s4 _ _ Lo)),_,_,rfl,rfl,Zw,t,_,_,_,rfl,rfl, .of (s4 _ _ Lo),uk,y,ay,dy,_,_,rfl,s4 _ _ F.ob,Fc.cl,Fc.worth,gc d.worth wy ic pr,_,rfl,a,ns,14,rfl,s4.seq Lz,ZA,_,_,rfl,rfl,(show(0:Int)<3 by decide),_,_,rfl,rfl,_,_,rfl,rfl,d.worth+cell ns 14%3-1,Zz,rfl,s4⟩
  rintro σ H4 ⟨l1,jZ,rfl,s4⟩;have Y0:=ok.least;refine⟨fun σ H5=>∃l2,c.least≤l2∧l2≤999999∧σ=[some (.ref a),some (.ref b),some (.ref t),some (.ref m),some (.int l2),none,none,none]∧H5=H4,⟨_,rfl,_,_,rfl,if l1<999999 then l1 else 999999,by split<;>omega,by split<;>omega,rfl,rfl⟩,?_⟩;rintro σ H4 ⟨l2,sJ,Y1,rfl,rfl⟩;have C4:=C3.keep s4;have kh:=C4.ca;refine⟨fun σ H5=>∃g m2,σ=[some (.ref a),some (.ref b),some (.ref t),some (.ref m),some (.int l2),some (.ref g),none,none]∧ax H4 H5∧jt H5 g {c with least:=l2} x1 x2 m2 l us,?_,?_⟩
  ·refine⟨_,rfl,b,_,0,_,rfl,rfl, .of kh,ar (j:=0) rfl,_,rfl,b,_,1,_,rfl,rfl, .of kh,ar (j:=1) rfl,_,rfl,m,_,0,_,rfl,rfl, .of C4.nu,ar (j:=0) rfl,_,rfl,m,_,1,_,rfl,rfl, .of C4.nu,ar (j:=1) rfl,_,rfl,m,_,2,_,rfl,rfl, .of C4.nu,ar (j:=2) rfl,_,rfl,aE Zu,fun m' zN=>?_⟩;have sm:=ax.upd (o:= .lst [.int c.same, .int c.out, .int c.into, .int l2]) zN;have LA:=sm _ _ kh;refine⟨_,rfl,b,_,3,_,rfl,rfl, .of LA,ar (j:=3) rfl,aE Zu,fun g hg=>?_⟩;have sb:=ax.upd (o:= .lst [.ref x1, .ref x2, .ref m', .ref l]) hg;have sB:=sm.trans sb;exact⟨g,m',rfl,sB,ae,sB _ _ C4.fi,sB _ _ C4.se,sb _ _ ae,sB _ _ C4.ne,C4.tr.same sB⟩
  rintro σ H5 ⟨g,m2,rfl,s5,C5⟩;have Ye:dW 40 {c with least:=l2}:=⟨ok.x,ok.y,ok.good,ok.same,ok.out,ok.into,by show 1≤l2∧l2≤999999;omega⟩
  have S9:dW 50 {c with least:=l2}:=⟨LD.x,LD.y,ok.good,ok.same,ok.out,ok.into,by show 1≤l2∧l2≤999999;omega⟩
  have S_:PH {c with least:=l2}:=fun ds f r=>sI ds f (Reach.less sJ r)
  have Yg:=s4.trans s5;refine⟨fun σ H6=>∃(r:Addr)(ws:List V)(xZ:List Fd),σ=[some (.ref a),some (.ref b),some (.ref t),some (.ref m),some (.int l2),some (.ref g),some (.ref r),none]∧ax H5 H6∧H6 r=some (.lst ws)∧cb (fun _=>True) H6 ay ws xZ∧bN (ju c []) c.out c.into l2 xZ,?_,?_⟩
  ·exact⟨_,rfl,g,{c with least:=l2},x1,x2,m2,l,us,40,rfl,C5,Ye,Zz,S_,fun es TD H3 t vs s3 _ h3 FL=>⟨t,vs,es,rfl,s3,h3,FL,TD⟩⟩
  rintro σ H6 ⟨r,ws,xZ,rfl,s6,Td,Vq,Tf⟩;refine⟨fun σ H7=>σ=[some (.ref a),some (.ref b),some (.ref t),some (.ref m),some (.int l2),some (.ref g),some (.ref r),none]∧ax H6 H7,?_,?_⟩
  ·refine⟨_,rfl,_,_,_,true,_,rfl,rfl, .lst Td,rfl,_,rfl,?_⟩;refine fN ?_;refine⟨_,rfl,_,rfl,g,r,{c with least:=l2},x1,x2,m2,l,us,ws,xZ,rfl,C5.keep s6,S9,Td,Vq,Tf,fun H3 s3=>⟨_,rfl,?_⟩⟩;refine fN ?_;exact⟨rfl,s3⟩
  rintro σ H7 ⟨rfl,s7⟩;have Tg:=(Yg.trans s6).trans s7;have Yh:=Qf.keep (P':=fun _=>True) (fun b o _ e=>Tg b o e) (dG.same Tg) fun _ h=>h
  have Vr:=Tg _ _ Lo;have Yi:=s7 _ _ Td;refine⟨fun σ H8=>∃D ys,σ=[some (.ref a),some (.ref b),some (.ref t),some (.ref m),some (.int l2),some (.ref g),some (.ref r),some (.ref D)]∧ax H7 H8∧H8 D=some (.lst ys)∧Lm H8 ys ((es.filter fun d=>decide (l2≤d.worth)).map i9),?_,?_⟩
  ·refine⟨_,rfl,t,rfl,⟨_, .of Vr⟩,fun D hD=>?_⟩;refine iU (xs:=vs) (fun i ys bD H8=>(∃u,bD=[u,some (.int l2)])∧H8 D=some (.lst ys)∧ax H7 H8∧lL H8 D ys (((es.take i).filter fun d=>decide (l2≤d.worth)).map i9)) ⟨⟨_,rfl⟩,ae,ax.upd hD, .nil⟩ ?_ ?_ ?_
   ·rintro i ys bD H8 _ ⟨_,_,s8,_⟩;exact .of (s8 _ _ Vr)
   ·rintro i v ys bD H8 hv ⟨⟨u,rfl⟩,AG,s8,DN⟩;have hi:i<es.length:=by rw[←OL];exact(Y' hv).1
    have ei:es[i]?=some es[i]:=by simp[hi]
    generalize es[i]=d at ei;obtain⟨y,dy,wy,ic,pr,kZ,ik,e1,F7⟩:=Yh.2 i d ei;rw[hv]at e1;cases e1;have F:=F7.keep (P':=fun _=>True) (fun b o _ e=>s8 b o e) (dG.same s8) fun _ h=>h
    have et:es.take (i+1)=es.take i++[d]:=by rw[List.take_succ,ei];rfl
    have dl:=DN.1;have Y2:(((es.take i).filter fun d=>decide (l2≤d.worth)).map i9).length≤i:=by
     rw[List.length_map];refine Nat.le_trans (List.length_filter_le _ _) ?_;rw[List.length_take];omega
    refine⟨_,rfl,y,ay,dy,_,_,rfl,F.ob,Fc.cl,Fc.worth,gc d.worth wy ic pr,_,rfl,_,_,rfl,rfl,_,rfl,?_⟩;refine a9 (fun h1=>?_) (fun h1=>?_)
    ·have h1:l2≤d.worth:=by simpa using h1
     refine⟨_,rfl,y,ay,dy,_,_,rfl,F.ob,Fc.cl,Fc.worth,gc d.worth wy ic pr,_,rfl,y,ay,dy,_,_,rfl,F.ob,Fc.cl,Fc.pairs,ij d.worth wy ic pr,pr,_,rfl, .inl (.of F.hp),fun z hz=>⟨aE Zu,fun p hp=>?_⟩⟩;have sz:=ax.upd (o:= .lst ik) hz;have sp:=ax.upd (o:= .tup [.int d.worth, .ref z]) hp;have nz:z≠D:=fun e=>by rw[e,AG]at hz;cases hz
     have sA:=sz.trans sp;refine⟨sA _ _ AG,bf Zw,⟨_,rfl⟩,ae,(s8.trans sA).ft hD,?_⟩;rw[et,List.filter_append,List.map_append];have e9:([d].filter fun d=>decide (l2≤d.worth)).map i9=[i9 d]:=by rw[List.filter_cons,Zp (decide_eq_true h1)];rfl
     rw[e9];have D2:=(DN.keep (fun b o _ e=>sA b o e) (dG.same sA)).snoc (x:=i9 d) (t:=p) (l:=z) (us:=ik) ae (sp _ _ ae) (F.pp.same sA) nz;exact D2.keep (fun b o hb e=>by rw[ak hb];exact e) (dG.lst (sA _ _ AG))
    ·have h1:¬l2≤d.worth:=by simpa using h1
     refine⟨⟨_,rfl⟩,AG,s8,?_⟩;rw[et,List.filter_append,List.map_append];have e9:([d].filter fun d=>decide (l2≤d.worth)).map i9=[]:=by rw[List.filter_cons,Zm (by simpa using h1)];rfl
     rw[e9,List.append_nil];exact DN
   ·rintro ys bD H8 ⟨_,AG,s8,DN⟩;rw[OL,List.take_length]at DN;exact⟨D,ys,rfl,s8,AG,DN.R3⟩
  rintro σ H8 ⟨D,ys,rfl,s8,AG,DU⟩;rw[←TD.more sJ Tf]at DU;have Yj:=Tf.sI;exact⟨_,rfl,_,rfl,r,D,ws,ys,xZ,_,rfl,s8 _ _ Yi,Vq.keep (P':=fun _=>True) (fun b o _ e=>(s7.trans s8) b o e) (dG.same (s7.trans s8)) (fun _ h=>h),AG,DU,Zz,q _⟩
end
theorem all_mk{l:W.OpenLaw}{w:World}{K:W.Frag}{h:Heap}{mg:Str→Option Value}{fa:Addr}(X:K.In h)(G:h.Ns mainGlobals mg)(Yk:mg "law"=some (.ref fa))
  {pj jH:Option Addr} {px:Array (Option Value)} {pz jI jJ jK gD jL:Value}
  {gE:Addr} {pA:Value} {pB:Option Addr} {pC:Nat} {pD:Array (Option Value)} {pE:Tok}
  {aU:Addr} (xm:Oe K "Terms" aU)
  {aA:Addr} (tW:Oe K "Trails" aA)
  {ay:Addr} (qH:Oe K "Finding" ay)
  {aI:Addr} (tX:Oe K "Groups" aI)
  {az:Addr} (lU:Oe K "Gathering" az)
  {jM:Addr} (pF:W.nsIn K mainGlobals "is_small_letter"=some (some (.ref jM)))
  (pG:fK K "is_small_letter" "is_small_letter" gh jM)
  {vK:Addr} (CS:W.nsIn K mainGlobals "is_word"=some (some (.ref vK)))
  (CU:fK K "is_word" "is_word" my vK)
  {pH:Addr} (xn:W.nsIn K mainGlobals "is_between"=some (some (.ref pH)))
  (xo:fK K "is_between" "is_between" kG pH)
  {lV:Addr} (tY:W.nsIn K mainGlobals "check_number"=some (some (.ref lV)))
  (tZ:fK K "check_number" "check_number" i_ lV)
  {jN:Addr} (pI:W.nsIn K mainGlobals "check_near_form"=some (some (.ref jN)))
  (pJ:fK K "check_near_form" "check_near_form" gi jN)
  {mZ:Addr} (uN:W.nsIn K mainGlobals "near_prices"=some (some (.ref mZ)))
  (uO:fK K "near_prices" "near_prices" gY mZ)
  {fB:Addr} (qI:W.findIn K (.ref aU) "__init__"=some (some (.ref fB))) (qJ:W.isFn K (.ref fB)=true)
  (qK:K.lookup fB=some ⟨pz,pj, .func (W.fnOf "__init__" "Terms.__init__" (fm br) (eI br) (au br) (.ref gE) jI jJ jK jH gD jL),px⟩)
  (qL:W.codeIn K gD "Terms.__init__"=true) (qM:W.keepIn K (.ref fB)=true)
  (pK:K.lookup gE=some ⟨pA,pB, .seq #[.int 50 pE, .none] pC,pD⟩)
  {fT:Addr} (nQ:W.findIn K (.ref aU) "pair_worth"=some (some (.ref fT))) (nS:W.isFn K (.ref fT)=true)
  (nU:fK K "pair_worth" "Terms.pair_worth" dX fT)
  {t5:Addr} (AH:W.nsIn K mainGlobals "greatest"=some (some (.ref t5)))
  (AI:fK K "greatest" "greatest" kH t5)
  {FG:Addr} (LF:W.nsIn K mainGlobals "less"=some (some (.ref FG)))
  (LG:fK K "less" "less" Aw FG)
  {je:Addr} (nV:W.nsIn K mainGlobals "begun_or_gone_on"=some (some (.ref je)))
  (nW:fK K "begun_or_gone_on" "begun_or_gone_on" fQ je)
  {dM:Addr} (ki:W.findIn K (.ref aA) "brought_behind"=some (some (.ref dM))) (kj:W.isFn K (.ref dM)=true)
  (kn:fK K "brought_behind" "Trails.brought_behind" dI dM)
  {gF:Addr} (pL:W.findIn K (.ref aA) "__init__"=some (some (.ref gF))) (pM:W.isFn K (.ref gF)=true)
  (pN:fK K "__init__" "Trails.__init__" eK gF)
  {gS:Addr} (qN:W.findIn K (.ref aA) "goes_on"=some (some (.ref gS))) (qO:W.isFn K (.ref gS)=true)
  (qQ:fK K "goes_on" "Trails.goes_on" gR gS)
  {d_:Addr} (kR:W.findIn K (.ref aA) "is_brought_by"=some (some (.ref d_))) (kT:W.isFn K (.ref d_)=true)
  (kU:fK K "is_brought_by" "Trails.is_brought_by" dY d_)
  {cR:Addr} (ji:W.findIn K (.ref aA) "crossings_before"=some (some (.ref cR))) (jj:W.isFn K (.ref cR)=true)
  (jk:fK K "crossings_before" "Trails.crossings_before" cQ cR)
  {fh:Addr} (lW:W.findIn K (.ref aA) "pair_before"=some (some (.ref fh))) (lX:W.isFn K (.ref fh)=true)
  (lY:fK K "pair_before" "Trails.pair_before" e6 fh)
  {iB:Addr} (rW:W.findIn K (.ref aA) "way_to"=some (some (.ref iB))) (rX:W.isFn K (.ref iB)=true)
  (rY:fK K "way_to" "Trails.way_to" iA iB)
  {fU:Addr} (nX:W.findIn K (.ref ay) "__init__"=some (some (.ref fU))) (nY:W.isFn K (.ref fU)=true)
  (nZ:fK K "__init__" "Finding.__init__" fR fU)
  {t6:Addr} (AJ:W.nsIn K mainGlobals "order_of"=some (some (.ref t6)))
  (AK:fK K "order_of" "order_of" nE t6)
  {lZ:Addr} (t8:W.nsIn K mainGlobals "make_finding"=some (some (.ref lZ)))
  (t9:fK K "make_finding" "make_finding" e7 lZ)
  {gG:Addr} (pO:W.findIn K (.ref aI) "__init__"=some (some (.ref gG))) (pQ:W.isFn K (.ref gG)=true)
  (pR:fK K "__init__" "Groups.__init__" gj gG)
  {kW:Addr} (xp:W.findIn K (.ref aI) "has"=some (some (.ref kW))) (xq:W.isFn K (.ref kW)=true)
  (xr:fK K "has" "Groups.has" iI kW)
  {gT:Addr} (qR:W.findIn K (.ref aI) "take_in"=some (some (.ref gT))) (qS:W.isFn K (.ref gT)=true)
  (qT:fK K "take_in" "Groups.take_in" fu gT)
  {jf:Addr} (t_:W.findIn K (.ref aI) "unite"=some (some (.ref jf))) (ua:W.isFn K (.ref jf)=true)
  (ub:fK K "unite" "Groups.unite" e8 jf)
  {jY:Addr} (uP:W.findIn K (.ref aI) "told"=some (some (.ref jY))) (uQ:W.isFn K (.ref jY)=true)
  (uR:fK K "told" "Groups.told" gZ jY)
  {fj:Addr} (l0:W.findIn K (.ref az) "__init__"=some (some (.ref fj))) (l5:W.isFn K (.ref fj)=true)
  (l6:fK K "__init__" "Gathering.__init__" e_ fj)
  {gU:Addr} (qU:W.findIn K (.ref az) "mark"=some (some (.ref gU))) (qV:W.isFn K (.ref gU)=true)
  (qW:fK K "mark" "Gathering.mark" fv gU)
  {fC:Addr} (mK:W.findIn K (.ref az) "go_over"=some (some (.ref fC))) (mL:W.isFn K (.ref fC)=true)
  (mM:fK K "go_over" "Gathering.go_over" dE fC)
  {gH:Addr} (pS:W.findIn K (.ref az) "visit"=some (some (.ref gH))) (pT:W.isFn K (.ref gH)=true)
  (pU:fK K "visit" "Gathering.visit" eL gH)
  {m3:Addr} (uS:W.nsIn K mainGlobals "best_groups"=some (some (.ref m3)))
  (uT:fK K "best_groups" "best_groups" jU m3)
  {vL:Addr} (CV:W.nsIn K mainGlobals "shut_by"=some (some (.ref vL)))
  (CW:fK K "shut_by" "shut_by" mz vL)
  {m4:Addr} (uU:W.nsIn K mainGlobals "open_worths"=some (some (.ref m4)))
  (uV:fK K "open_worths" "open_worths" fF m4)
  {pV:Addr} (xt:W.nsIn K mainGlobals "make_round"=some (some (.ref pV)))
  (xu:fK K "make_round" "make_round" gk pV)
  {pW:Addr} (xv:W.nsIn K mainGlobals "shut_pairs"=some (some (.ref pW)))
  (xw:fK K "shut_pairs" "shut_pairs" kI pW)
  {vM:Addr} (CY:W.nsIn K mainGlobals "compare"=some (some (.ref vM)))
  (CZ:fK K "compare" "compare" qE vM)
  {vN:Addr} (C0:W.nsIn K mainGlobals "_law_at"=some (some (.ref vN)))
  (C6:fK K "_law_at" "_law_at" qF vN)
  {pX:Addr} (xx:W.nsIn K mainGlobals "_law_whole"=some (some (.ref pX)))
  (xy:fK K "_law_whole" "_law_whole" kJ pX)
  {rA:Addr} (yX:W.nsIn K mainGlobals "_law_bank"=some (some (.ref rA)))
  (yY:fK K "_law_bank" "_law_bank" lM rA)
  {rB:Addr} (yZ:W.nsIn K mainGlobals "_law_book"=some (some (.ref rB)))
  (y4:fK K "_law_book" "_law_book" lN rB)
  {pY:Addr} (xA:W.nsIn K mainGlobals "_law_quote"=some (some (.ref pY)))
  (xB:fK K "_law_quote" "_law_quote" iJ pY)
  {l7:Addr} (uc:W.nsIn K mainGlobals "_law_numbers"=some (some (.ref l7)))
  (ud:fK K "_law_numbers" "_law_numbers" gm l7)
  {rC:Addr} (y6:W.nsIn K mainGlobals "_law_near"=some (some (.ref rC)))
  (y8:fK K "_law_near" "_law_near" lO rC)
  {rD:Addr} (y9:W.nsIn K mainGlobals "_law_case"=some (some (.ref rD)))
  (y_:fK K "_law_case" "_law_case" lP rD)
  {rE:Addr} (ZW:W.nsIn K mainGlobals "_law_pair"=some (some (.ref rE)))
  (ZX:fK K "_law_pair" "_law_pair" lQ rE)
  {pZ:Addr} (xC:W.nsIn K mainGlobals "_law_worth"=some (some (.ref pZ)))
  (xD:fK K "_law_worth" "_law_worth" kK pZ)
  {p4:Addr} (xE:W.nsIn K mainGlobals "_law_pairs"=some (some (.ref p4)))
  (xF:fK K "_law_pairs" "_law_pairs" kL p4)
  {p5:Addr} (xG:W.nsIn K mainGlobals "_law_terms"=some (some (.ref p5)))
  (xH:fK K "_law_terms" "_law_terms" kM p5)
  {rF:Addr} (ZO:W.nsIn K mainGlobals "_law_calm"=some (some (.ref rF)))
  (ZP:fK K "_law_calm" "_law_calm" lR rF)
  {l8:Addr} (ue:W.nsIn K mainGlobals "_law_finding"=some (some (.ref l8)))
  (uf:fK K "_law_finding" "_law_finding" gq l8)
  {m6:Addr} (uW:W.nsIn K mainGlobals "_law_is_way"=some (some (.ref m6)))
  (uX:fK K "_law_is_way" "_law_is_way" g7 m6)
  {p6:Addr} (xI:W.nsIn K mainGlobals "_law_spots"=some (some (.ref p6)))
  (xJ:fK K "_law_spots" "_law_spots" iK p6)
  {m7:Addr} (uY:W.nsIn K mainGlobals "_law_anchor"=some (some (.ref m7)))
  (uZ:fK K "_law_anchor" "_law_anchor" g8 m7)
  {p7:Addr} (xK:W.nsIn K mainGlobals "_law_asked"=some (some (.ref p7)))
  (xM:fK K "_law_asked" "_law_asked" kN p7)
  {ko:Addr} (qX:W.nsIn K mainGlobals "_law_same_list"=some (some (.ref ko)))
  (qY:fK K "_law_same_list" "_law_same_list" fz ko)
  {Jd:Addr} (ON:W.nsIn K mainGlobals "law"=some (some (.ref Jd)))
  (OO:fK K "law" "law" oX Jd)
  (Tc:Ec K aU)
  (Rc:Bh K aA)
  (Fc:II K ay)
  (Gc:N1 K aI)
  (Hc:IM K az)
  (zz:TZ K)
  {ZV:Tok} (ZN:W.nsIn K mainGlobals "WORD_MOST"=some (some (.int 12 ZV)))
  {xN:Tok} (xO:W.nsIn K mainGlobals "WORTH_MOST"=some (some (.int 999999 xN)))
  {ZS:Tok} (ZU:W.nsIn K mainGlobals "NEAR_MOST"=some (some (.int 60 ZS)))
  {ZQ:Tok} (ZY:W.nsIn K mainGlobals "PART_MOST"=some (some (.int 100 ZQ)))
  {rZ:Tok} (r6:W.nsIn K mainGlobals "FINDINGS_MOST"=some (some (.int 20 rZ)))
  {dZ:Addr} (AL:Od K "BadTerms" dZ)
  {cS:Addr} (C9:Od K "BadNear" cS)
  {ka:Addr} (C_:Od K "TooMany" ka)
  (AM:W.nsIn K mainGlobals "reversed"=some none)
  (FH:W.nsIn K mainGlobals "sorted"=some none)
  :∃fd:FuncData,(∀(s:Shared)(v:Value),BindsTo s fd ⟨[v],[]⟩ [("_law_script",v)])∧∀base:Heap,K.In base→base.Ns mainGlobals mg→aZ l.prog w K mg base (cV l.prog w) true 10 fa fd ["_law_script"] (Bc K):=by
 have e:=Yk.symm.trans (W.mg_of X G ON);cases e;have T:=zz.tb X G;have jy:DE mg "WORD_MOST" (.int 12):=⟨_,W.mg_of X G ZN,_,rfl⟩
 have bO:DE mg "WORTH_MOST" (.int 999999):=⟨_,W.mg_of X G xO,_,rfl⟩
 have ir:DE mg "NEAR_MOST" (.int 60):=⟨_,W.mg_of X G ZU,_,rfl⟩
 have jz:DE mg "PART_MOST" (.int 100):=⟨_,W.mg_of X G ZY,_,rfl⟩
 have ed:DE mg "FINDINGS_MOST" (.int 20):=⟨_,W.mg_of X G r6,_,rfl⟩
 have ja:=AL.er X G;have cc:=C9.er X G;have kg:=C_.er X G;have LH:mg "reversed"=none:=W.mg_none_of X G AM;have jc:mg "sorted"=none:=W.mg_none_of X G FH;obtain @⟨_,k1,k2,k3,k4,k5,_,k6,_,l9,c9,k9⟩:=OO;refine⟨W.fnOf "law" "law" (fm oX) (eI oX) (au oX) .none k1 k2 k3 k6 k4 k5,fun s v=> .of_eq rfl,fun base _ _=>?_⟩;have eM:=pG.df X G pF (fun _ F=>nG (P:=l.prog) (w:=w) (base:=base) T F) (BI fun _ _ _ _ _ _ _=>rfl);have kb:=CU.df X G CS (fun _ F=>Ay (P:=l.prog) (w:=w) (base:=base) T jy eM F) (BI fun _ _ _ _ _ _ _=>rfl);have d6:=xo.df X G xn (fun _ F=>uz (P:=l.prog) (w:=w) (base:=base) T F) (Au fun _ _ _ _ _ _ _ _ _=>rfl);have cA:=tZ.df X G tY (fun _ F=>rO (P:=l.prog) (w:=w) (base:=base) T d6 ja F) (R0 fun _ _ _ _ _ _ _ _ _ _=>rfl);have eO:=pJ.df X G pI (fun _ F=>nJ (P:=l.prog) (w:=w) (base:=base) T d6 bO kb cc F) (Au fun _ _ _ _ _ _ _ _ _=>rfl);have g9:=uO.df X G uN (fun _ F=>tO (P:=l.prog) (w:=w) (base:=base) T cc ir eO F) (BI fun _ _ _ _ _ _ _=>rfl);have qZ:=A9 (st:=br) qK qL qM;have q_:=oZ (P:=l.prog) (w:=w) (base:=base) T bO jz cA g9 Tc qZ;have AN:Binds K (W.fnOf "__init__" "Terms.__init__" (fm br) (eI br) (au br) (.ref gE) jI jJ jK jH gD jL) ["self","same","out","into","least","part","near"] []:=fun s us hK hl=>by
  obtain⟨_,_,_,_,_,_,_,rfl⟩:=QF.Rh us (by simpa using hl);exact BindsTo.of_defaults rfl (hK _ _ pK) rfl rfl rfl
 have pe:mQ l.prog w K mg base true 5 "Terms" aU ["self","same","out","into","least","part","near"] [] (sg aU dZ cS):=yq q_ ⟨xm.b,qI,qJ,xm.c⟩ (W.mg_of X G xm.a) AN (.nil);have d8:=nU.mt Tc.cl nQ nS (fun _ F=>mF (P:=l.prog) (w:=w) (base:=base) T Tc F) (Au fun _ _ _ _ _ _ _ _ _=>rfl);have ff:=AI.df X G AH (fun _ F=>yU (P:=l.prog) (w:=w) (base:=base) T F) (BI fun _ _ _ _ _ _ _=>rfl);have kO:=LG.df X G LF (fun _ F=>Hs (P:=l.prog) (w:=w) (base:=base) T F) (xa fun _ _ _ _ _ _ _ _=>rfl);have d7:=nW.df X G nV (fun _ F=>mH (P:=l.prog) (w:=w) (base:=base) T F) (xa fun _ _ _ _ _ _ _ _=>rfl);have cC:=kn.mt Rc.cl ki kj (fun _ F=>jV (P:=l.prog) (w:=w) (base:=base) T ff kO Rc F) (Au fun _ _ _ _ _ _ _ _ _=>rfl);have mD:=pN.nw (W.mg_of X G tW.a) tW.b tW.c pL pM (fun _ F=>nK (P:=l.prog) (w:=w) (base:=base) T Tc Rc d7 cC F) (Au fun _ _ _ _ _ _ _ _ _=>rfl);have cf:=qQ.mt Rc.cl qN qO (fun _ F=>o6 (P:=l.prog) (w:=w) (base:=base) T Rc F) (xa fun _ _ _ _ _ _ _ _=>rfl);have ba:=kU.mt Rc.cl kR kT (fun _ F=>ke (P:=l.prog) (w:=w) (base:=base) T Rc F) (Au fun _ _ _ _ _ _ _ _ _=>rfl);have aY:=jk.mt Rc.cl ji jj (fun _ F=>jb (P:=l.prog) (w:=w) (base:=base) T kO Rc F) (xa fun _ _ _ _ _ _ _ _=>rfl);have dh:=lY.mt Rc.cl lW lX (fun _ F=>lh (P:=l.prog) (w:=w) (base:=base) T Rc ba aY F) (xa fun _ _ _ _ _ _ _ _=>rfl);have fL:=rY.mt Rc.cl rW rX (fun _ F=>qG (P:=l.prog) (w:=w) (base:=base) T Rc cf dh F) (xa fun _ _ _ _ _ _ _ _=>rfl);have kP:=nZ.nw (W.mg_of X G qH.a) qH.b qH.c nX nY (fun _ F=>mJ (P:=l.prog) (w:=w) (base:=base) T Fc F) (Uv fun _ _ _ _ _ _ _ _ _ _ _=>rfl);have kQ:=AK.df X G AJ (fun _ F=>yW (P:=l.prog) (w:=w) (base:=base) T Fc F) (BI fun _ _ _ _ _ _ _=>rfl);have gv:=t9.df X G t8 (fun _ F=>rR (P:=l.prog) (w:=w) (base:=base) T Rc fL kP F) (Au fun _ _ _ _ _ _ _ _ _=>rfl);have mB:=pR.nw (W.mg_of X G tX.a) tX.b tX.c pO pQ (fun _ F=>nM (P:=l.prog) (w:=w) (base:=base) T Gc F) (BI fun _ _ _ _ _ _ _=>rfl);have iL:=xr.mt Gc.cl xp xq (fun _ F=>uB (P:=l.prog) (w:=w) (base:=base) T Gc F) (xa fun _ _ _ _ _ _ _ _=>rfl);have cj:=qT.mt Gc.cl qR qS (fun _ F=>o8 (P:=l.prog) (w:=w) (base:=base) T Gc F) (xa fun _ _ _ _ _ _ _ _=>rfl);have cL:=ub.mt Gc.cl t_ ua (fun _ F=>rS (P:=l.prog) (w:=w) (base:=base) T Gc F) (Au fun _ _ _ _ _ _ _ _ _=>rfl);have g_:=uR.mt Gc.cl uP uQ (fun _ F=>tQ (P:=l.prog) (w:=w) (base:=base) T Gc jc F) (BI fun _ _ _ _ _ _ _=>rfl);have iM:=l6.nw (W.mg_of X G lU.a) lU.b lU.c l0 l5 (fun _ F=>lq (P:=l.prog) (w:=w) (base:=base) T mB Hc F) (Au fun _ _ _ _ _ _ _ _ _=>rfl);have ck:=qW.mt Hc.cl qU qV (fun _ F=>pd (P:=l.prog) (w:=w) (base:=base) T Hc cL F) (Au fun _ _ _ _ _ _ _ _ _=>rfl);have dF:=mM.mt Hc.cl mK mL (fun _ F=>lT (P:=l.prog) (w:=w) (base:=base) T ba aY Hc cL cj ck F) (Au fun _ _ _ _ _ _ _ _ _=>rfl);have eP:=pU.mt Hc.cl pS pT (fun _ F=>nN (P:=l.prog) (w:=w) (base:=base) T Rc cf Hc cj ck iL dF F) (Au fun _ _ _ _ _ _ _ _ _=>rfl);have hG:=uT.df X G uS (fun _ F=>tR (P:=l.prog) (w:=w) (base:=base) T Rc Hc iM eP g_ F) (xa fun _ _ _ _ _ _ _ _=>rfl);have mC:=CW.df X G CV (fun _ F=>AB (P:=l.prog) (w:=w) (base:=base) T F) (BI fun _ _ _ _ _ _ _=>rfl);have hU:=uV.df X G uU (fun _ F=>tS (P:=l.prog) (w:=w) (base:=base) T Tc mC d8 F) (R0 fun _ _ _ _ _ _ _ _ _ _=>rfl);have gw:=xu.df X G xt (fun _ F=>uC (P:=l.prog) (w:=w) (base:=base) T Tc ff Rc mD hG gv F) (xa fun _ _ _ _ _ _ _ _=>rfl);have iO:=xw.df X G xv (fun _ F=>uD (P:=l.prog) (w:=w) (base:=base) T Fc F) (xa fun _ _ _ _ _ _ _ _=>rfl);have mE:=CZ.df X G CY (fun _ F=>AD (P:=l.prog) (w:=w) (base:=base) T jc ed hU gw iO kQ kg F) (Au fun _ _ _ _ _ _ _ _ _=>rfl);have aX:=C6.df X G C0 (fun _ F=>AF (P:=l.prog) (w:=w) (base:=base) T F) (xa fun _ _ _ _ _ _ _ _=>rfl);have bF:=xy.df X G xx (fun _ F=>uF (P:=l.prog) (w:=w) (base:=base) T F) (BI fun _ _ _ _ _ _ _=>rfl);have jB:=yY.df X G yX (fun _ F=>xg (P:=l.prog) (w:=w) (base:=base) T F) (Au fun _ _ _ _ _ _ _ _ _=>rfl);have jC:=y4.df X G yZ (fun _ F=>xh (P:=l.prog) (w:=w) (base:=base) T aX F) (Uv fun _ _ _ _ _ _ _ _ _ _ _=>rfl);have iP:=xB.df X G xA (fun _ F=>uG (P:=l.prog) (w:=w) (base:=base) T aX F) (WQ fun _ _ _ _ _ _ _ _ _ _ _ _=>rfl);have gz:=ud.df X G uc (fun _ F=>rT (P:=l.prog) (w:=w) (base:=base) T aX F) (xa fun _ _ _ _ _ _ _ _=>rfl);have jD:=y8.df X G y6 (fun _ F=>xi (P:=l.prog) (w:=w) (base:=base) T F) (Au fun _ _ _ _ _ _ _ _ _=>rfl);have jF:=y_.df X G y9 (fun _ F=>xj (P:=l.prog) (w:=w) (base:=base) T aX jB jC iP gz jD F) (xa fun _ _ _ _ _ _ _ _=>rfl);have bJ:=ZX.df X G ZW (fun _ F=>xk (P:=l.prog) (w:=w) (base:=base) T F) (R0 fun _ _ _ _ _ _ _ _ _ _=>rfl);have iR:=xD.df X G xC (fun _ F=>uH (P:=l.prog) (w:=w) (base:=base) T bJ F) (xa fun _ _ _ _ _ _ _ _=>rfl);have dw:=xF.df X G xE (fun _ F=>uI (P:=l.prog) (w:=w) (base:=base) T bF F) (BI fun _ _ _ _ _ _ _=>rfl);have iT:=xH.df X G xG (fun _ F=>uJ (P:=l.prog) (w:=w) (base:=base) T pe F) (BI fun _ _ _ _ _ _ _=>rfl);have jG:=ZP.df X G ZO (fun _ F=>xl (P:=l.prog) (w:=w) (base:=base) T bJ F) (BI fun _ _ _ _ _ _ _=>rfl);have gB:=uf.df X G ue (fun _ F=>rV (P:=l.prog) (w:=w) (base:=base) T Fc bF dw F) (BI fun _ _ _ _ _ _ _=>rfl);have hV:=uX.df X G uW (fun _ F=>tU (P:=l.prog) (w:=w) (base:=base) T bJ F) (xa fun _ _ _ _ _ _ _ _=>rfl);have iS:=xJ.df X G xI (fun _ F=>uK (P:=l.prog) (w:=w) (base:=base) T bJ F) (xa fun _ _ _ _ _ _ _ _=>rfl);have fH:=uZ.df X G uY (fun _ F=>tV (P:=l.prog) (w:=w) (base:=base) T Fc gB hV iR iS F) (xa fun _ _ _ _ _ _ _ _=>rfl);have gC:=xM.df X G xK (fun _ F=>uM (P:=l.prog) (w:=w) (base:=base) T mE iT F) (BI fun _ _ _ _ _ _ _=>rfl);have fA:=qY.df X G qX (fun _ F=>ph (P:=l.prog) (w:=w) (base:=base) T Fc bF dw F) (xa fun _ _ _ _ _ _ _ _=>rfl);exact LC T Fc aX jF jG gC fH fA (DZ (st:=oX) l9 c9 k9)
theorem walk{l:W.OpenLaw}{q:Program}{loose:List Str}{XP:(Str→Option Value)→Heap→Prop}{YP:World→Heap→Prop}{d:DefRec}{K:Params→W.Frag}(hn:l.most=some 63)(Nb:d.params.defaults=[])
  (hY:∀(w:World)(h:Heap),YP w h→(K w.params).In h)
  (F:∀(w:World)(mg:Str→Option Value)(fa:Addr)(h:Heap),(K w.params).In h→h.Ns mainGlobals mg→mg d.name=some (.ref fa)→
   ∃fd:FuncData,(∀(s:Shared)(u:Value),BindsTo s fd ⟨[u],[]⟩ [("_law_script",u)])∧∀base:Heap,(K w.params).In base→base.Ns mainGlobals mg→aZ l.prog w (K w.params) mg base (cV l.prog w) true 10 fa fd ["_law_script"] (Bc (K w.params))):
  W.WalkO q loose XP YP l.row.toRowW d [] (fun f vs=>PySem.call f vs):=
 L2.Gr (n:=63) (k:=10) (x:="_law_script") (CX:=fun w=>cV l.prog w) (sp:=fun w=>Bc (K w.params)) hn (ZA) Nb ⟨(fun _=>rfl),ZA,ZA⟩ hY F (fun _ _ a ns hl _ hS=>⟨a,ns,rfl,hS,hl,fun _=>rfl⟩) fun _ _ _ _ _ z=>by obtain⟨_,_,_,_,_,_,_,_,_,_,_,_,_,z⟩:=z;exact z
end R4
open PySem PySem.W PyProof.Rows
set_option maxRecDepth 100000 in
set_option maxHeartbeats 0 in
theorem PySem.Challenge.cw_quotefind_k25_greater_least_holds : PySem.Challenge.rw_quotefind_k25_greater_least.Holds := by
 w_on;refine holds_law HD.ws fun said=>?_;k_head
 (case hw=>w_witness2)
 refine R4.walk (l:=PySem.Challenge.rw_quotefind_k25_greater_least) rfl rfl (fun w h Y=>PySem.W.kIn_of Y) ?F
 case F=>
  intro w mg fa h KX G Nc
  refine' R4.all_mk KX G Nc ?_ ?_ ?_ ?_ ?_ ?_ ?_ ?_ ?_ ?_ ?_ ?_ ?_ ?_ ?_ ?_ ?_ ?_ ?_ ?_ ?_ ?_ ?_ ?_ ?_ ?_ ?_ ?_ ?_ ?_ ?_ ?_ ?_ ?_ ?_ ?_ ?_ ?_ ?_ ?_ ?_ ?_ ?_ ?_ ?_ ?_ ?_ ?_ ?_ ?_ ?_ ?_ ?_ ?_ ?_ ?_ ?_ ?_ ?_ ?_ ?_ ?_ ?_ ?_ ?_ ?_ ?_ ?_ ?_ ?_ ?_ ?_ ?_ ?_ ?_ ?_ ?_ ?_ ?_ ?_ ?_ ?_ ?_ ?_ ?_ ?_ ?_ ?_ ?_ ?_ ?_ ?_ ?_ ?_ ?_ ?_ ?_ ?_ ?_ ?_ ?_ ?_ ?_ ?_ ?_ ?_ ?_ ?_ ?_ ?_ ?_ ?_ ?_ ?_ ?_ ?_ ?_ ?_ ?_ ?_ ?_ ?_ ?_ ?_ ?_ ?_ ?_ ?_ ?_ ?_ ?_ ?_ ?_ ?_ ?_ ?_ ?_ ?_ ?_ ?_ ?_ ?_ ?_ ?_ ?_ ?_ ?_ ?_ ?_ ?_ ?_ ?_ ?_ ?_ ?_
  all_goals first|k_is|(show(_:Prop);constructor<;>first|(show _=_;k_is)|k_exc|(constructor<;>(show _=_;k_is)))|skip
#print axioms PySem.Challenge.cw_quotefind_k25_greater_least_holds
